import PyProof.Rows.All
import Wide.All
import OpenK.AllK
import Wide.FinOn
import Lean
import PyProof.EqAt
import PyProof.EqKinds
import PyProof.TupleCall
import PyProof.AutoIntG2
import PyProof.ZipIter
import PyProof.Rows.ZipGen
import PyProof.NeKinds
import PyProof.Rows.SumAny
import KE.KRevIter
import KE.KRevSl
import PyProof.Rows.StrJoin2
import PyProof.Rows.Range3
import KE.KMinKey
import KE.KDictLaws
import KE.KDictList
import KE.KIntText
import PyProof.Rows.RegReprOcc
import PyProof.AutoSeq1
import PyProof.DictWalks
import PyProof.MeetsIn
import PyProof.CallType
import PyProof.Rows.SetFrom
import KE.KDictSum
import PyProof.Rows.SortWalk
import PyProof.FString5
import PySem.Challenge.RW_tightrows_k30_tables_and_rows
set_option Elab.async false
set_option linter.all false
set_option maxRecDepth 100000
namespace L2
open PySem PySem.Spec PyProof.Rows
theorem aj{α β:Type _}{as:List α}(f:α->β):(as.map f).length=as.length:=List.length_map f
theorem aA{α:Type _}{l:List α}{i:Nat}(h:i < l.length):l[i]?=some l[i]:=List.getElem?_eq_getElem h
theorem af{α β:Type}{M:Model}{A:Around}{E:Value->Shared->Prop}{s:Shared}{m:Sem α}{f:α->Sem β}{Q:β->Shared->Prop}(h:wpAny M A m (λ a s'=>wpAny M A (f a) Q E s') E s):wpAny M A (m >>= f) Q E s:=wpAny_bind h
theorem al_gs{α:Type _}{i:Nat}{a:α}{l:List α}:l[i]?=some a↔∃ h,l[i]=a:=List.getElem?_eq_some_iff
theorem aH{α β:Type _}{f:α->β}{l:List α}{i:Nat}:(l.map f)[i]?=l[i]?.map f:=List.getElem?_map
theorem bf{n m:Nat}(h:n.ble m=true):n<=m:=Nat.le_of_ble_eq_true h
theorem aO{α:Type _}{as bs:List α}:(as++bs).length=as.length+bs.length:=List.length_append
theorem aJ{α β:Type _}{f:α->β}{a b:List α}:(a++b).map f=a.map f++b.map f:=List.map_append
theorem aS{α:Type _}{l:List α}{i:Nat}{a:α}(h:l[i]?=some a):a∈l:=List.mem_of_getElem? h
theorem aY{h:Heap}{a:Addr}{o':Obj}(o:Obj)(e:h.get? a=some o'):(h.push o).get? a=some o':=Heap.get?_push_of_some o e
theorem aK{p:Prop}[Decidable p](h:¬p):decide p=false:=decide_eq_false h
theorem aN{p:Prop}[Decidable p](h:p):decide p=true:=decide_eq_true h
theorem al_mc{α:Type _}{a b:α}{l:List α}:a∈b::l↔a=b\/a∈l:=List.mem_cons
theorem bp{α:Type _}(y:α){a:α}{l:List α}(h:a∈l):a∈y::l:=List.mem_cons_of_mem y h
theorem a9{α:Type _}{as:List α}:as.toArray.size=as.length:=List.size_toArray
theorem bd{α:Type _}{l:List α}:l.take l.length=l:=List.take_length
theorem bc{α:Type _}{i:Nat}{l:List α}:(l.take i).length=min i l.length:=List.length_take
theorem aG{α:Type}{M:Model}{A:Around}{E:Value->Shared->Prop}{s:Shared}{a:α}{Q:α->Shared->Prop}(h:Q a s):wpAny M A (pure a) Q E s:=wpAny_pure h
theorem al_mp{α:Type _}{a:α}{s t:List α}:a∈s++t↔a∈s\/a∈t:=List.mem_append
theorem bz:false≠true:=Bool.false_ne_true
theorem bB{α:Type _}{a:α}{l:List α}:a∈a::l:=List.mem_cons_self
theorem al_mi{α:Type _}{a b:α}:a∈[b]↔a=b:=List.mem_singleton
theorem cn{α:Type _}{a:α}:[a].length=1:=List.length_singleton
variable {P prog q:Program} {w:World} {A:Around} {E Q:Value->Shared->Prop} {s s' s2:Shared} {its its' us:List Value} {m name p0 p1 qual x:Str} {cd cdv cls ct doc oc pm u v:Value} {α κ:Type} {C I a b d dx i1 i2 it z:Addr} {base h h' h1 h2:Heap} {c e elt iter tg value:Expr} {pins pins' pn:List (Addr × Obj)} {g':Array GenState} {ep i j n t' tk:Nat} {d':Drawn} {L ch fp wr:List Addr} {N loose ps:List Str} {M:Model} {R:Result->Shared->Prop} {f:Value->Value->Sem Value} {apos cpos kpos np p p2 p3 p4 pos pos' py spos tpos:Pos} {op op':CmpOp} {K:W.Frag} {st:Stmt} {elts es ifs:List Expr} {body:List Stmt} {l:List Nat} {hi lo:Int} {pl:Sem Bool} {mA mg:Str->Option Value} {ns:List Int} {kw:List (Str × Value)} {env:Env} {fd:FuncData} {outer:List Env} {kindOf:Str->Option NameKind} {sc scope:Scope} {an od:Option Addr} {osl:Array (Option Value)} {XP:(Str->Option Value)->Heap->Prop} {YP:World->Heap->Prop} {B:Prop} {items:Array Value} {S:Heap->Prop} {bt:Nat->Nat->Bool}
noncomputable abbrev Key:=Sum (Option Int) Str
variable {xs:List (List Key × Addr × Value)}
noncomputable def iP:Key->Value->Bool
 | .inl none,v=>v == Value.none
 | .inl (some k),v=>Value.isInt k v
 | .inr x,v=>Value.isStrOf x v
noncomputable def zdo(w:World):Key->Int
 | .inl none=>0xFCA86420
 | .inl (some k)=>hashInt k
 | .inr x=>hashStr w x
theorem eY:∀ {k:Key} {v:Value},iP k v=true->(k=Sum.inl none/\v=Value.none)\/(∃ i t,k=Sum.inl (some i)/\v=Value.int i t)\/(∃ x t,k=Sum.inr x/\v=Value.str x t)
 | .inl none,v,h=>.inl ⟨rfl,eq_of_beq h⟩
 | .inl (some i),v,h=>by
  obtain ⟨t,e⟩:=Value.isInt_shape (k:=i) (v:=v) h;exact .inr (.inl ⟨i,t,rfl,e⟩)
 | .inr x,v,h=>by
  obtain ⟨t,e⟩:=Value.isStrOf_shape (x:=x) (v:=v) h;exact .inr (.inr ⟨x,t,rfl,e⟩)
theorem zdp(i:Int)(t:Tok):iP (.inl (some i)) (.int i t)=true:=by simp [iP,Value.isInt]
theorem zdq(x:Str)(t:Tok):iP (.inr x) (.str x t)=true:=by simp [iP,Value.isStrOf]
theorem zdr(a b:Int):decide ((Sum.inl (some a):Key)=Sum.inl (some b))=(a == b):=by
 by_cases e:a=b
 ·subst e;simp
 ·have h:¬ (Sum.inl (some a):Key)=Sum.inl (some b):=λ q=>e (Option.some.inj (Sum.inl.inj q));rw [aK h];exact (beq_eq_false_iff_ne.mpr e).symm
theorem zdy(a b:Str):decide ((Sum.inr a:Key)=Sum.inr b)=decide (a=b):=by
 by_cases e:a=b
 ·subst e;simp
 ·have h:¬ (Sum.inr a:Key)=Sum.inr b:=λ q=>e (Sum.inr.inj q);rw [aK h,aK e]
theorem zdu(b:Int):decide ((Sum.inl none:Key)=Sum.inl (some b))=false:=aK (by intro z;cases z)
theorem zdv(b:Str):decide ((Sum.inl none:Key)=Sum.inr b)=false:=aK (by intro z;cases z)
theorem zds(a:Int):decide ((Sum.inl (some a):Key)=Sum.inl none)=false:=aK (by intro z;cases z)
theorem zdt(a:Int)(b:Str):decide ((Sum.inl (some a):Key)=Sum.inr b)=false:=aK (by intro z;cases z)
theorem zdx(a:Str):decide ((Sum.inr a:Key)=Sum.inl none)=false:=aK (by intro z;cases z)
theorem zdw(a:Str)(b:Int):decide ((Sum.inr a:Key)=Sum.inl (some b))=false:=aK (by intro z;cases z)
theorem zhI{Q:Int->Shared->Prop}(h:Q 0xFCA86420 { s with toks:=s.toks+1 }):
  wpAny (model prog w) A (PySem.pyHash .none) Q E s:=by
 have hT:s.TypeIs .none "NoneType" := rfl;unfold PySem.pyHash;have hv:[Value.none].any Value.onHeap=false:=rfl;refine af ?_;rw [cRoomFor,if_neg (by rw [hv];exact bz)];refine aG ?_;refine af (wpAny_specialOf hT F.slot_NoneType_hash.lookup ?_);show wpAny _ _ (if (some (Value.builtin "NoneType.__hash__") == some Value.none)=true then _ else _) Q E s;rw [if_neg (by rw [beq_builtin_none];exact bz)];refine af (wpAny_specialOf hT F.slot_NoneType_hash.lookup ?_);show wpAny _ _ (callSpecialIfBoundUnlessNone? .none "__hash__" _ >>= _) Q E s;refine af (wpAny_callSpecialIfBoundUnlessNone?_slot hT F.slot_NoneType_hash
  (wpAny_call_entry F.slot_NoneType_hash hT F.entry_NoneType_hash
   (show wpAny _ _ (do ret (← mkInt 0xFCA86420)) _ _ s from wpAny_ret_mkInt ?_) (F.args_NoneType_hash_1 _)))
 show wpAny _ _ (if (decide (-(2:Int) ^ 63<=0xFCA86420) && decide ((0xFCA86420:Int) < 2 ^ 63))=true then _ else _) Q E _;rw [if_pos (by decide)];exact aG h
noncomputable def bY(prog:Program)(w:World):PySem.KeyKind prog w Key where
 is:=iP
 hash:=zdo w
 inj:=λ v a b ha hb=>by
  rcases eY ha with ⟨rfl,rfl⟩ | ⟨i,t,rfl,rfl⟩ | ⟨x,t,rfl,rfl⟩
  ·rcases eY hb with ⟨rfl,e⟩ | ⟨j,u,rfl,e⟩ | ⟨y,u,rfl,e⟩
   ·rfl
   ·exact nomatch e
   ·exact nomatch e
  ·rcases eY hb with ⟨rfl,e⟩ | ⟨j,u,rfl,e⟩ | ⟨y,u,rfl,e⟩
   ·exact nomatch e
   ·injection e with e1 _;rw [e1]
   ·exact nomatch e
  ·rcases eY hb with ⟨rfl,e⟩ | ⟨j,u,rfl,e⟩ | ⟨y,u,rfl,e⟩
   ·exact nomatch e
   ·exact nomatch e
   ·injection e with e1 _;rw [e1]
 byValue:=λ k v h=>by
  rcases eY h with ⟨rfl,rfl⟩ | ⟨i,t,rfl,rfl⟩ | ⟨x,t,rfl,rfl⟩ <;> rfl
 pyHash:=λ hv h=>by
  rcases eY hv with ⟨rfl,rfl⟩ | ⟨i,t,rfl,rfl⟩ | ⟨x,t,rfl,rfl⟩
  ·exact zhI h
  ·exact wpAny_pyHash_int h
  ·exact wpAny_pyHash_str h
 eqBool:=λ hu hv h=>by
  rcases eY hu with ⟨rfl,rfl⟩ | ⟨i,t,rfl,rfl⟩ | ⟨x,t,rfl,rfl⟩
  ·rcases eY hv with ⟨rfl,rfl⟩ | ⟨j,u,rfl,rfl⟩ | ⟨y,u,rfl,rfl⟩
   ·rw [aN rfl] at h;exact SeqAt.EqAt.same _ _ _ _ _ h
   ·rw [zdu] at h;exact SeqAt.EqAt.none_int j u _ _ _ _ h
   ·rw [zdv] at h;exact SeqAt.EqAt.none_str y u _ _ _ _ h
  ·rcases eY hv with ⟨rfl,rfl⟩ | ⟨j,u,rfl,rfl⟩ | ⟨y,u,rfl,rfl⟩
   ·rw [zds] at h;exact SeqAt.EqAt.int_none i t _ _ _ _ h
   ·rw [zdr] at h;exact wpAny_eqBool_int h
   ·rw [zdt] at h;exact SeqAt.EqAt.int_str i t y u _ _ _ _ h
  ·rcases eY hv with ⟨rfl,rfl⟩ | ⟨j,u,rfl,rfl⟩ | ⟨y,u,rfl,rfl⟩
   ·rw [zdx] at h;exact SeqAt.EqAt.str_none x t _ _ _ _ h
   ·rw [zdw] at h;exact SeqAt.EqAt.str_int x t j u _ _ _ _ h
   ·rw [zdy] at h;exact wpAny_eqBool_str h
 «strs»:=λ k x t v h=>by
  rcases eY h with ⟨rfl,e⟩ | ⟨i,u,rfl,e⟩ | ⟨y,u,rfl,e⟩
  ·exact nomatch e
  ·exact nomatch e
  ·injection e with e1 _
   subst e1;cases v <;> rfl
theorem zeE(prog:Program)(w:World)(i:Int)(t:Tok):(bY prog w).is (.inl (some i)) (.int i t)=true:=zdp i t
theorem zeF(prog:Program)(w:World)(x:Str)(t:Tok):(bY prog w).is (.inr x) (.str x t)=true:=zdq x t
inductive V where
 | non | bl (b:Bool) | int (i:Int) | str (x:Str) | byt (b:Array UInt8) | flt (b:UInt64) | ref (a:Addr) | ty (n:String)
 deriving DecidableEq
variable {y:V} {acc vs ys:List V} {kvs:List (Key × V)}
noncomputable def RelV:V->Value->Prop
 | .non,u=>u=Value.none
 | .bl b,u=>u=Value.bool b
 | .int i,u=>∃ t,u=Value.int i t
 | .str x,u=>∃ t,u=Value.str x t
 | .byt b,u=>∃ t,u=Value.bytes b t
 | .flt b,u=>∃ t,u=Value.float b t
 | .ref a,u=>u=Value.ref a
 | .ty n,u=>u=Value.type n
noncomputable abbrev Vals:List V->List Value->Prop:=Paired RelV
theorem Vals.length{xs:List V}{us:List Value}(r:Vals xs us):xs.length=us.length:=Paired.length r
theorem Vals.get:∀ {xs:List V} {us:List Value} {i:Nat} {x:V},Vals xs us->xs[i]?=some x->∃ u,us[i]?=some u/\RelV x u
 | _,_,_,_,.nil,e=>by simp at e
 | _,_,0,_,.cons r _,e=>by simp at e;subst e;exact ⟨_,rfl,r⟩
 | _,_,i+1,x,.cons _ t,e=>by
  obtain ⟨u,h1,h2⟩:=Vals.get (i:=i) (x:=x) t (by simpa using e);exact ⟨u,by simpa using h1,h2⟩
theorem Vals.set{x:V}{u:Value}(r:RelV x u):∀ {xs:List V} {us:List Value} (i:Nat),Vals xs us->Vals (xs.set i x) (us.set i u)
 | _,_,_,.nil=>.nil
 | _,_,0,.cons _ t=>.cons r t
 | _,_,i+1,.cons q t=>.cons q (Vals.set r i t)
theorem Vals.append:∀ {xs ys:List V} {us ws:List Value},Vals xs us->Vals ys ws->Vals (xs++ys) (us++ws)
 | _,_,_,_,.nil,s=>s
 | _,_,_,_,.cons r t,s=>.cons r (Vals.append t s)
theorem Vals.take:∀ {xs:List V} {us:List Value} (n:Nat),Vals xs us->Vals (xs.take n) (us.take n)
 | _,_,0,_=>.nil
 | _,_,_+1,.nil=>.nil
 | _,_,n+1,.cons r t=>.cons r (Vals.take n t)
theorem Vals.drop:∀ {xs:List V} {us:List Value} (n:Nat),Vals xs us->Vals (xs.drop n) (us.drop n)
 | _,_,0,r=>r
 | _,_,_+1,.nil=>.nil
 | _,_,n+1,.cons _ t=>Vals.drop n t
theorem Vals.none_of:∀ {xs:List V} {us:List Value} {i:Nat},Vals xs us->xs[i]?=none->us[i]?=none:=λ {xs us i} r e=>by
 have h1:=r.length;have h2:xs.length<=i:=List.getElem?_eq_none_iff.mp e;exact List.getElem?_eq_none_iff.mpr (by omega)
noncomputable def RelO:Option V->Option Value->Prop
 | some v,some u=>RelV v u
 | none,none=>True
 | _,_=>False
noncomputable def KV  : List (κ × V)->List (κ × Value)->Prop:=Paired λ (p:κ × V) (q:κ × Value)=>p.1=q.1/\RelV p.2 q.2
noncomputable def kV:Key->V
 | .inl none=>.non
 | .inl (some i)=>.int i
 | .inr x=>.str x
inductive HO where
 /-- a list -/
 | lst (xs:List V)
 /-- a tuple (never changes) -/
 | tup (xs:List V)
 /-- a dict whose keys are ints and texts;one whose keys are tuples of ints and texts (the empty one is both) -/
 | dK (kvs:List (Key × V)) | dT (kvs:List (List Key × V))
 /-- a set of ints: its members,its size -/
 | set (S:Int->Bool) (n:Nat)
 /-- an instance of the class at C,its dict at dx,its attributes -/
 | ins (C dx:Addr) (fs:List (Str × V))
 /-- the dict of the instance at x -/
 | own (x:Addr)
 /-- the dict of an exception -/
 | xd (fs:List (Str × V))
 /-- a bound method,f of x -/
 | met (f x:Addr)
 /-- a range object lo,lo+1,.. below hi -/
 | rng (lo hi:Int)
 /-- a thing that is known to the object (the script;a dict while a loop walks it): read,never written while it is so -/
 | frz (o:Obj) (u:HO)
 /-- a code object's table -/
 | tbl (ps:Array Value)
 /-- any other thing,by what is true of its one object (a def of one's own: SetO a S n:=HO.ext λ h=>..) -/
 | ext (φ:Heap->Prop)
variable {o:HO}
noncomputable abbrev Hp:=Addr->Option HO
variable {H H' H1 H2:Hp} {Qe:List V->Hp->Prop}
noncomputable def upd(H:Hp)(a:Addr)(o:HO):Hp:=λ b=>if b=a then some o else H b
theorem ah    : upd H a o a=some o:=by unfold upd;rw [if_pos rfl]
theorem ag(h:b≠a):upd H a o b=H b:=by unfold upd;rw [if_neg h]
theorem cZ{u:HO}(h:H a=some o)(h':H b=some u)(d:o≠u):a≠b:=by
 intro e;subst e;rw [h] at h';exact d (Option.some.inj h')
theorem aF(h:H a=some o)(h':H b=none):a≠b:=by
 intro e;subst e;rw [h] at h';cases h'
section
variable (P:Program) (w:World)
noncomputable def ObjOk(H:Hp)(h:Heap)(a:Addr):HO->Prop
 | .lst xs=>xs.length<=sizeLine/\∃ (its:List Value) (n:Nat),Vals xs its/\h.get? a=some { cls:=.type "list", data:=.seq its.toArray n }
 | .tup xs=>xs.length<=sizeLine/\∃ its:List Value,Vals xs its/\IsTup h a its.toArray
 | .dK kvs=>kvs.length<=sizeLine/\(a == sysModules)=false/\∃ vs,KV kvs vs/\h.DictOf (bY P w) a vs
 | .dT kvs=>kvs.length<=sizeLine/\(a == sysModules)=false/\∃ xs:List (List Key × Addr × Value),
   Paired (λ (p:List Key × V) (q:List Key × Addr × Value)=>p.1=q.1/\H q.2.1=some (.tup (p.1.map kV))/\RelV p.2 q.2.2) kvs xs/\
   ∃ o es ep,h.get? a=some o/\o.ExactDict/\o.data = .dict es ep/\es.toList=xs.map (entryOfKey (tupleKind (bY P w)))/\(xs.map (·.1)).Nodup
 | .set S n=>h.SetOf (intKind P w) a S n
 | .ins C dx fs=>H dx=some (.own a)/\fs.length<=1000/\dx≠a/\h.get? a=some (W.instObj C dx)/\
   ∃ mA,h.Ns1 dx mA/\(∀ f,RelO (fs.lookup f) (mA f))/\PySem.Within mA (fs.map (·.1))
 | .own _=>∃ o,h.get? a=some o
 | .xd fs=>∃ mA,h.Ns1 a mA/\∀ f,RelO (fs.lookup f) (mA f)
 | .rng lo hi=>∃ t u v,h.get? a=some { cls:=.type "range", data:=.fields #[.int lo t,.int hi u,.int 1 v] }
 | .frz o u=>h.get? a=some o/\ObjOk H h a u
 | .tbl ps=>h.get? a=some { cls:=.none,data:=.fields ps }
 | .met f x=>h.get? a=some (W.methodObj (.ref f) (.ref x))
 | .ext φ=>φ h/\(∃ o,h.get? a=some o)/\∀ h1 h2:Heap,φ h1->(∀ o,h1.get? a=some o->h2.get? a=some o)->φ h2
noncomputable def HOk(H:Hp)(h:Heap):Prop:=∀ a o,H a=some o->ObjOk P w H h a o
end
theorem ObjOk.lt(x:ObjOk P w H h a o):a < h.objs.size:=by
 cases o with
 | lst xs=>obtain ⟨_,_,_,_,e⟩:=x;exact Heap.lt_size e
 | tup xs=>obtain ⟨_,_,_,p⟩:=x;exact p.lt
 | dK kvs=>obtain ⟨_,_,_,_,o,_,_,e,_⟩:=x;exact Heap.lt_size e
 | dT kvs=>obtain ⟨_,_,_,_,o,_,_,e,_⟩:=x;exact Heap.lt_size e
 | set S n=>obtain ⟨o,_,_,_,e,_⟩:=x;exact Heap.lt_size e
 | ins C dx fs=>obtain ⟨_,_,_,e,_⟩:=x;exact Heap.lt_size e
 | own y=>obtain ⟨_,e⟩:=x;exact Heap.lt_size e
 | xd fs=>obtain ⟨_,⟨_,_,_,e,_⟩,_⟩:=x;exact Heap.lt_size e
 | rng lo hi=>obtain ⟨_,_,_,e⟩:=x;exact Heap.lt_size e
 | frz ob u=>obtain ⟨e,_⟩:=x;exact Heap.lt_size e
 | tbl ps=>exact Heap.lt_size (show h.get? a=some _ from x)
 | met f y=>exact Heap.lt_size (show h.get? a=some _ from x)
 | ext φ=>obtain ⟨_,⟨_,e⟩,_⟩:=x;exact Heap.lt_size e
theorem Paired.mapP{α β:Type}{F G:α->β->Prop}:∀ {l₁:List α} {l₂:List β},Paired F l₁ l₂->(∀ a b,F a b->G a b)->Paired G l₁ l₂
 | _,_,.nil,_=>.nil
 | _,_,.cons r t,f=>.cons (f _ _ r) (Paired.mapP t f)
theorem ObjOk.stay(x:ObjOk P w H h a o)(k:∀ b u,(b=a\/H b=some (.own a))->h.get? b=some u->h'.get? b=some u)(ho:∀ b,H b=some (.own a)->H' b=some (.own a))(ht:∀ b xs,H b=some (.tup xs)->H' b=some (.tup xs)):ObjOk P w H' h' a o:=by
 induction o with
 | lst xs=>obtain ⟨z,its,n,r,e⟩:=x;exact ⟨z,its,n,r,k _ _ (.inl rfl) e⟩
 | tup xs=>obtain ⟨z,its,r,ob,e,c⟩:=x;exact ⟨z,its,r,ob,k _ _ (.inl rfl) e,c⟩
 | dK kvs=>obtain ⟨z,y,vs,r,ob,es,ep,e,c⟩:=x;exact ⟨z,y,vs,r,ob,es,ep,k _ _ (.inl rfl) e,c⟩
 | dT kvs=>
  obtain ⟨z,y,xs,r,ob,es,ep,e,c⟩:=x;exact ⟨z,y,xs,Paired.mapP r λ p q z=>⟨z.1,ht _ _ z.2.1,z.2.2⟩,ob,es,ep,k _ _ (.inl rfl) e,c⟩
 | set S n=>obtain ⟨ob,es,ep,t,e,c⟩:=x;exact ⟨ob,es,ep,t,k _ _ (.inl rfl) e,c⟩
 | ins C dx fs=>
  obtain ⟨d,z,ne,e,mA,⟨od,es,ep,e2,c⟩,r⟩:=x;exact ⟨ho _ d,z,ne,k _ _ (.inl rfl) e,mA,⟨od,es,ep,k _ _ (.inr d) e2,c⟩,r⟩
 | own y=>obtain ⟨ob,e⟩:=x;exact ⟨ob,k _ _ (.inl rfl) e⟩
 | xd fs=>obtain ⟨mA,⟨od,es,ep,e,c⟩,r⟩:=x;exact ⟨mA,⟨od,es,ep,k _ _ (.inl rfl) e,c⟩,r⟩
 | rng lo hi=>obtain ⟨t,u,v,e⟩:=x;exact ⟨t,u,v,k _ _ (.inl rfl) e⟩
 | frz ob u ih=>obtain ⟨e,q⟩:=x;exact ⟨k _ _ (.inl rfl) e,ih q⟩
 | tbl ps=>
  have e:h.get? a=some { cls:=.none,data:=.fields ps }:=x;show h'.get? a=some { cls:=.none,data:=.fields ps };exact k a _ (.inl rfl) e
 | met f y=>
  have e:h.get? a=some (W.methodObj (.ref f) (.ref y)):=x;show h'.get? a=some (W.methodObj (.ref f) (.ref y));exact k a _ (.inl rfl) e
 | ext φ=>obtain ⟨p,⟨o,e⟩,st⟩:=x;exact ⟨st _ _ p λ o q=>k _ _ (.inl rfl) q,⟨o,k _ _ (.inl rfl) e⟩,st⟩
theorem HOk.lt(x:HOk P w H h)(e:H a=some o):a < h.objs.size:=(x a o e).lt
theorem HOk.fresh(x:HOk P w H h)(e:h.objs.size<=a):H a=none:=by
 cases q:H a with
 | none=>rfl
 | some u=>exact absurd (Nat.lt_of_lt_of_le (x.lt q) e) (Nat.lt_irrefl _)
theorem HOk.kept(x:HOk P w H h)(k:∀ b u,h.get? b=some u->h'.get? b=some u):HOk P w H h':=λ a o e=>
 (x a o e).stay (λ b u _ q=>k b u q) (λ _ q=>q) λ _ _ q=>q
theorem HOk.laid(x:HOk P w H h)(k:∀ b u,h.get? b=some u->h'.get? b=some u)(hp:h.objs.size<=a)(new:ObjOk P w (upd H a o) h' a o):HOk P w (upd H a o) h':=λ b u e=>by
 have hn:=x.fresh hp;by_cases hb:b=a
 ·subst hb;rw [ah] at e;cases e;exact new
 ·rw [ag hb] at e;exact (x b u e).stay (λ c v _ q=>k c v q) (λ c q=>by rw [ag (aF q hn)];exact q) λ c xs q=>by rw [ag (aF q hn)];exact q
noncomputable def Rd(H:Hp)(a:Addr)(u:HO):Prop:=H a=some u\/∃ o,H a=some (.frz o u)
theorem Rd.of{u:HO}(h:H a=some u):Rd H a u:=.inl h
theorem Rd.ok{u:HO}(r:Rd H a u)(x:HOk P w H h):ObjOk P w H h a u:=by
 rcases r with r | ⟨o,r⟩
 ·exact x a u r
 ·obtain ⟨_,q⟩:=x a _ r;exact q
noncomputable def Mut:Option HO->Prop
 | some (.lst _)=>True
 | some (.dK _)=>True
 | some (.dT _)=>True
 | some (.set _ _)=>True
 | some (.ins _ _ _)=>True
 | some (.ext _)=>True
 | _=>False
section
variable {x e:Addr} {o':HO}
theorem HOk.write(ok:HOk P w H h)(mu:Mut (H x))(he:e=x\/H e=some (.own x))(k:∀ b u,b≠e->h.get? b=some u->h'.get? b=some u)(heo:∃ u,h'.get? e=some u)(new:ObjOk P w (upd H x o') h' x o'):HOk P w (upd H x o') h':=λ b u q=>by
 have nown:∀ c y,H c=some (.own y)->c≠x:=λ c y r z=>by subst z;rw [r] at mu;exact mu
 have ntup:∀ c xs,H c=some (.tup xs)->c≠x:=λ c xs r z=>by subst z;rw [r] at mu;exact mu
 by_cases hb:b=x
 ·subst hb;rw [ah] at q;cases q;exact new
 ·rw [ag hb] at q;by_cases hbe:b=e
  ·have q':H b=some (.own x):=by
    rcases he with z | z
    ·exact absurd (hbe.trans z) hb
    ·rw [hbe];exact z
   rw [q] at q';cases q';obtain ⟨v,hv⟩:=heo;exact ⟨v,by rw [hbe];exact hv⟩
  ·refine (ok b u q).stay (λ c v hc r=>k c v ?_ r) (λ c r=>by rw [ag (nown c b r)];exact r) λ c xs r=>by rw [ag (ntup c xs r)];exact r
   rcases hc with rfl | hc
   ·exact hbe
   ·rintro rfl;rcases he with z | z
    ·exact nown c b hc z
    ·rw [hc] at z;cases z;exact hb rfl
end
structure Un (fs ex:List Addr) (H H':Hp) (h h':Heap):Prop where
 keep:∀ b o,h.get? b=some o->H b=none->b∉fs->b∉ex->h'.get? b=some o
 slot:∀ b o,h.get? b=some o->H b=none->b∈fs->b∉ex->∃ sl,h'.get? b=some { o with slots:=sl }
 free:∀ b o,h.get? b=some o->H b=none->b∉ex->H' b=none
 there:∀ b o,h.get? b=some o->b∉ex->∃ o',h'.get? b=some o'
 tups:∀ b xs,H b=some (.tup xs)->H' b=some (.tup xs)
 frzs:∀ b o u,H b=some (.frz o u)->H' b=some (.frz o u)
 tbls:∀ b ps,H b=some (.tbl ps)->∃ more,H' b=some (.tbl (ps++more))
section
variable {fs fs' ex ex':List Addr} {x e:Addr}
theorem Un.any(u:Un fs ex H H1 h h1){ob:Obj}(q:h.get? b=some ob)(n:H b=none)(hx:b∉ex):∃ sl,h1.get? b=some { ob with slots:=sl }:=by
 by_cases hb:b∈fs
 ·exact u.slot b ob q n hb hx
 ·exact ⟨ob.slots,u.keep b ob q n hb hx⟩
theorem Un.trans(a:Un fs ex H H1 h h1)(b:Un fs ex H1 H2 h1 h2):Un fs ex H H2 h h2 where
 keep:=λ c ob q n hc hx=>b.keep c ob (a.keep c ob q n hc hx) (a.free c ob q n hx) hc hx
 slot:=λ c ob q n hc hx=>by
  obtain ⟨sl,e1⟩:=a.slot c ob q n hc hx;obtain ⟨sl',e2⟩:=b.slot c _ e1 (a.free c ob q n hx) hc hx;exact ⟨sl',e2⟩
 free:=λ c ob q n hx=>by
  obtain ⟨o',e1⟩:=a.there c ob q hx;exact b.free c o' e1 (a.free c ob q n hx) hx
 there:=λ c ob q hx=>by
  obtain ⟨o',e1⟩:=a.there c ob q hx;exact b.there c o' e1 hx
 tups:=λ c xs q=>b.tups c xs (a.tups c xs q)
 frzs:=λ c ob xs q=>b.frzs c ob xs (a.frzs c ob xs q)
 tbls:=λ c ps q=>by
  obtain ⟨m1,e1⟩:=a.tbls c ps q;obtain ⟨m2,e2⟩:=b.tbls c _ e1;exact ⟨m1++m2,by rw [e2,Array.append_assoc]⟩
theorem Un.kept(k:∀ b u,h.get? b=some u->h'.get? b=some u):Un fs ex H H h h':=
 ⟨λ b ob q _ _ _=>k b ob q,λ b ob q _ _ _=>⟨ob.slots,k b ob q⟩,λ _ _ _ n _=>n,λ b ob q _=>⟨ob,k b ob q⟩,λ _ _ q=>q,λ _ _ _ q=>q,λ _ ps q=>⟨#[],by rw [q];simp⟩⟩
theorem Un.refl:Un fs ex H H h h:=Un.kept λ _ _ q=>q
theorem Un.laid(k:∀ b u,h.get? b=some u->h'.get? b=some u)(hp:h.objs.size<=a)(hn:H a=none):Un fs ex H (upd H a o) h h' where
 keep:=λ b u q _ _ _=>k b u q
 slot:=λ b u q _ _ _=>⟨u.slots,k b u q⟩
 free:=λ b u q n _=>by rw [ag (Nat.ne_of_lt (Nat.lt_of_lt_of_le (Heap.lt_size q) hp))];exact n
 there:=λ b u q _=>⟨u,k b u q⟩
 tups:=λ b xs q=>by rw [ag (aF q hn)];exact q
 frzs:=λ b u xs q=>by rw [ag (aF q hn)];exact q
 tbls:=λ b ps q=>⟨#[],by rw [ag (aF q hn),q];simp⟩
theorem Un.write(mu:Mut (H x))(he:e=x\/H e=some (.own x))(k:∀ b u,b≠e->h.get? b=some u->h'.get? b=some u)(heo:∃ u,h'.get? e=some u):Un fs ex H (upd H x o) h h':=by
 have hx:∀ b,H b=none->b≠x:=λ b n z=>by subst z;rw [n] at mu;exact mu
 have hb:∀ b,H b=none->b≠e:=λ b n z=>by
  subst z;rcases he with r | r
  ·exact hx b n r
  ·rw [n] at r;cases r
 have hm:∀ b u,H b=some u->¬ Mut (some u)->b≠x:=λ b u q nm z=>by subst z;rw [q] at mu;exact nm mu
 refine ⟨λ b u q n _ _=>k b u (hb b n) q,λ b u q n _ _=>⟨u.slots,k b u (hb b n) q⟩,λ b u q n _=>by rw [ag (hx b n)];exact n,λ b u q _=>?_,
  λ b xs q=>by rw [ag (hm b _ q λ z=>z)];exact q,λ b u xs q=>by rw [ag (hm b _ q λ z=>z)];exact q,λ b ps q=>⟨#[],by rw [ag (hm b _ q λ z=>z),q];simp⟩⟩
 by_cases hbe:b=e
 ·subst hbe;exact heo
 ·exact ⟨u,k b u hbe q⟩
theorem Un.mono(u:Un fs ex H H1 h h1)(hs:∀ b∈fs,b∈fs')(hx:∀ b∈ex,b∈ex'):Un fs' ex' H H1 h h1:=
 ⟨λ b ob q n hb he=>u.keep b ob q n (λ z=>hb (hs b z)) λ z=>he (hx b z),λ _ _ q n _ he=>u.any q n λ z=>he (hx _ z),λ b ob q n he=>u.free b ob q n λ z=>he (hx b z),λ b ob q he=>u.there b ob q λ z=>he (hx b z),u.tups,u.frzs,u.tbls⟩
end
noncomputable def trk(h:Heap)(H:Hp):List Addr:=(List.range h.objs.size).filter λ a=>(H a).isSome
noncomputable def fX(h:Heap)(H:Hp):Heap:=W.hideAll h (trk h H)
theorem zci(h:Heap)(H:Hp):(fX h H).objs.size=h.objs.size:=W.hideAll_size _ _
theorem zch{o:Obj}(e:h.get? b=some o)(n:H b=none):(fX h H).get? b=some o:=
 W.hideAll_get _ e λ hm=>by
  have q:(H b).isSome=true:=(List.mem_filter.mp hm).2;rw [n] at q;simp at q
theorem zfy{o:Obj}(e:(fX h H).get? b=some o):h.get? b=some o/\H b=none:=by
 have e':h.get? b=some o:=W.of_hideAll (trk h H) e;refine ⟨e',?_⟩;cases q:H b with
 | none=>rfl
 | some x=>
  have hm:b∈trk h H:=List.mem_filter.mpr ⟨List.mem_range.mpr (Heap.lt_size e'),by simp [q]⟩;have z:(fX h H).get? b=none:=W.hideAll_none (trk h H) hm;rw [z] at e;cases e
noncomputable def zac(g h:Heap)(L:Addr):List (Addr × Obj):=(List.range h.objs.size).filterMap λ a=>if a=L\/(g.get? a).isSome=true then none else (h.get? a).map λ o=>(a,o)
noncomputable def rest(g h:Heap)(L d:Addr):List (Addr × Obj):=(zac g h L).filter λ p=>decide (p.1≠d)
structure Mod (K:W.Frag) (mg:Str->Option Value) (base:Heap):Prop where
 kin:K.In base
 glob:base.Ns mainGlobals mg
 blt:∃ mb,base.Ns builtinsNs mb/\∀ x:Str,x ≠ "__name__" -> mb x=bootBuiltins x
 nolimit:base.NoLimit
structure Cx where
 prog:Program
 w:World
 K:W.Frag
 mg:Str->Option Value
 base:Heap
 A:Around
 N:List Str
 s₀:Shared
 H₀:Hp
 env:Env
 outer:List Env
 stack:List Env
 ex:List Addr
 fn:Str->Bool
 calm:Bool
 pn:List (Addr × Obj)
 xe:Value->Shared->Prop
variable {X:Cx}
noncomputable def frs(l:List Env):List Addr:=l.filterMap (·.frame)
noncomputable abbrev Cx.fs(X:Cx):List Addr:=frs X.outer
noncomputable def Vis(sc:Scope)(x:Str):Prop:=sc.names.lookup x=some .local\/sc.names.lookup x=some .cell\/sc.names.lookup x=some .free
noncomputable def Loc(sc:Scope)(x:Str):Prop:=sc.names.lookup x=some .local\/sc.names.lookup x=some .cell
noncomputable def sO(env:Env)(h:Heap)(m:Str->Option Value)(x:Str)(u:Value):Prop:=
 (env.kindOf x=some .local/\m x=some u)\/((env.kindOf x=some .cell\/env.kindOf x=some .free)/\∃ c,env.cells.lookup x=some c/\h.IsCell c (some u))
structure Cx.Ok (X:Cx):Prop where
 mod:Mod X.K X.mg X.base
 kind:X.env.scope.kind = .function
 glob:X.env.globals=mainGlobals
 blt:X.env.builtins=builtinsNs
 above:X.s₀.heap.objs.size<=X.env.locals
 inj:∀ x y c,X.env.cells.lookup x=some c->X.env.cells.lookup y=some c->x=y
 has:∀ x,(X.env.kindOf x=some .cell\/X.env.kindOf x=some .free)->∃ c,X.env.cells.lookup x=some c
 cab:∀ x c,X.fn x=true->X.env.cells.lookup x=some c->X.s₀.heap.objs.size<=c
 hd:X.calm=true->X.A.handled=none
 frames:X.A.frames=some X.stack
 stk:X.stack=X.outer\/(X.stack=X.env::X.outer/\X.env.frame=some X.env.locals)
 exf:∀ b∈X.ex,b≠X.env.locals/\∀ x c,X.env.cells.lookup x=some c->c≠b
 bs:∀ b o,X.base.get? b=some o->X.s₀.heap.get? b=some o/\X.H₀ b=none
 bsz:X.base.objs.size<=X.s₀.heap.objs.size
 noex:∀ b o,X.base.get? b=some o->b∉X.ex
 exfs:∀ b∈X.ex,b∉X.fs
 funs:X.s₀.heap.FunFrames X.base X.outer
 frf:∀ b∈X.fs,X.H₀ b=none
structure Inv (X:Cx) (pins:List (Addr × Obj)) (σ:List (Option V)) (H:Hp) (s:Shared):Prop where
 ok:X.Ok
 os:s.os=X.s₀.os
 bare:AllBare s.gens
 base:Un X.fs X.ex X.H₀ H X.s₀.heap s.heap
 loc:∃ m,s.heap.Ns X.env.locals m/\∀ (i:Nat) (x:Str) (v:V),X.N[i]?=some x->σ[i]?=some (some v)->Vis X.env.scope x->∃ u,RelV v u/\sO X.env s.heap m x u
 cell:∀ x c,X.env.cells.lookup x=some c->∃ v,s.heap.IsCell c v
 free:H X.env.locals=none
 freeC:∀ x c,X.env.cells.lookup x=some c->H c=none
 pin:∀ p∈X.pn++pins,s.heap.get? p.1=some p.2/\H p.1=none/\p.1≠X.env.locals/\p.1∉X.fs/\∀ v,p.2.data≠.cell v
 hok:HOk X.prog X.w H s.heap
 len:σ.length=X.N.length
section
variable {σ:List (Option V)}
theorem Cx.Ok.nofr(ok:X.Ok){o:Obj}(e:X.base.get? b=some o):b∉X.fs:=λ hb=>by
 have:=(ok.funs.mem hb).1;rw [e] at this;cases this
theorem Inv.bs(I:Inv X pins σ H s):∀ b o,X.base.get? b=some o->s.heap.get? b=some o/\H b=none:=λ b o e=>
 ⟨I.base.keep b o (I.ok.bs b o e).1 (I.ok.bs b o e).2 (I.ok.nofr e) (I.ok.noex b o e),I.base.free b o (I.ok.bs b o e).1 (I.ok.bs b o e).2 (I.ok.noex b o e)⟩
theorem Inv.bk(I:Inv X pins σ H s):∀ b o,X.base.get? b=some o->s.heap.get? b=some o:=λ b o e=>(I.bs b o e).1
theorem Inv.mod(I:Inv X pins σ H s):Mod X.K X.mg X.base:=I.ok.mod
theorem Inv.kIn(I:Inv X pins σ H s):X.K.In s.heap:=I.ok.mod.kin.keeps I.bk
theorem Inv.nolimit(I:Inv X pins σ H s):s.heap.NoLimit:=I.ok.mod.nolimit.keeps I.bk
theorem Inv.fr(I:Inv X pins σ H s):∃ m,Fr X.base X.env.locals s.heap m:=
 let ⟨m,hn,_⟩:=I.loc
 ⟨m,hn,I.bk,Nat.le_trans I.ok.bsz I.ok.above⟩
theorem Inv.lt(I:Inv X pins σ H s):X.env.locals < s.heap.objs.size:=let ⟨_,hn,_⟩:=I.loc;hn.lt
theorem Inv.sz(I:Inv X pins σ H s):X.s₀.heap.objs.size<=s.heap.objs.size:=Nat.le_trans I.ok.above (Nat.le_of_lt I.lt)
theorem Inv.nofs(I:Inv X pins σ H s)(h:s.heap.objs.size<=a):a∉X.fs:=λ hb=>by
 obtain ⟨_,o,ho,_⟩:=I.ok.funs.mem hb;exact absurd (Nat.lt_of_lt_of_le (Heap.lt_size ho) (Nat.le_trans I.sz h)) (Nat.lt_irrefl _)
theorem Inv.cne(I:Inv X pins σ H s):∀ x c,X.env.cells.lookup x=some c->c≠X.env.locals:=λ x c e z=>by
 obtain ⟨v,o,ho,hd⟩:=I.cell x c e;obtain ⟨m,⟨o',es,ep,ho',hd',_⟩,_⟩:=I.loc;rw [z,ho'] at ho;cases ho;rw [hd'] at hd;cases hd
theorem Inv.funs(I:Inv X pins σ H s):s.heap.FunFrames X.base X.outer:=by
 have all:∀ (l:List Env),(∀ b∈frs l,b∈X.fs)->X.s₀.heap.FunFrames X.base l->s.heap.FunFrames X.base l:=by
  intro l;induction l with
  | nil=>intro _ _;trivial
  | cons env r ih=>
   intro hs hl;obtain ⟨hk,⟨L,o,hf,hn,ho,hd⟩,hr⟩:=hl;have hL:L∈X.fs:=hs L (by unfold frs;rw [List.filterMap_cons,hf];exact bB);obtain ⟨sl,e⟩:=I.base.slot L o ho (I.ok.frf L hL) hL λ z=>I.ok.exfs L z hL;exact ⟨hk,⟨L,_,hf,hn,e,hd⟩,ih (λ b hb=>hs b (by unfold frs;rw [List.filterMap_cons,hf];exact bp _ hb)) hr⟩
 exact all X.outer (λ _ hb=>hb) I.ok.funs
theorem Inv.stack(I:Inv X pins σ H s):s.heap.FunFrames X.base X.stack:=by
 rcases I.ok.stk with e | ⟨e,hf⟩
 ·rw [e];exact I.funs
 ·rw [e];obtain ⟨m,hn,_⟩:=I.loc;refine .cons (by rw [I.ok.kind];decide) hf hn ?_ I.funs;exact Heap.get?_none_of_le (Nat.le_trans I.ok.bsz I.ok.above)
theorem Inv.stkSub(I:Inv X pins σ H s):∀ b∈frs X.stack,b∈X.env.locals::X.fs:=λ b hb=>by
 rcases I.ok.stk with e | ⟨e,hf⟩
 ·rw [e] at hb;exact bp _ hb
 ·rw [e] at hb;unfold frs at hb;rw [List.filterMap_cons,hf] at hb;exact hb
theorem Inv.stkFree(I:Inv X pins σ H s):∀ b∈frs X.stack,H b=none:=λ b hb=>by
 rcases al_mc.mp (I.stkSub b hb) with e | hb
 ·rw [e];exact I.free
 ·obtain ⟨_,o,ho,_⟩:=I.ok.funs.mem hb;exact I.base.free b o ho (I.ok.frf b hb) λ z=>I.ok.exfs b z hb
theorem Inv.step(I:Inv X pins σ H s)(hch:∀ b∈ch,(b∈X.ex\/X.s₀.heap.objs.size<=b)/\b≠X.env.locals/\(∀ x c,X.env.cells.lookup x=some c->c≠b)/\∀ p∈X.pn++pins,p.1≠b)(keep:∀ b o,b≠X.env.locals->b∉X.fs->b∉ch->s.heap.get? b=some o->H b=none->h'.get? b=some o)(slot:∀ b o,b≠X.env.locals->b∈X.fs->b∉ch->s.heap.get? b=some o->H b=none->∃ sl,h'.get? b=some { o with slots:=sl })(free:∀ b o,b∉ch->s.heap.get? b=some o->H b=none->H' b=none)(there:∀ b o,b∉ch->s.heap.get? b=some o->∃ o',h'.get? b=some o')(tups:∀ b xs,H b=some (.tup xs)->H' b=some (.tup xs))(frzs:∀ b o u,H b=some (.frz o u)->H' b=some (.frz o u))(tbls:∀ b ps,H b=some (.tbl ps)->∃ more,H' b=some (.tbl (ps++more)))(ns:∀ m,s.heap.Ns X.env.locals m->h'.Ns X.env.locals m)(hok:HOk X.prog X.w H' h')(hg:AllBare g'):
  Inv X pins σ H' { s with heap:=h',gens:=g',drawn:=d',toks:=t' }:=by
 have neL:∀ b o,X.s₀.heap.get? b=some o->b≠X.env.locals:=λ b o e=>Nat.ne_of_lt (Nat.lt_of_lt_of_le (Heap.lt_size e) I.ok.above);have neC:∀ b o,X.s₀.heap.get? b=some o->b∉X.ex->b∉ch:=λ b o e hx hb=>by
  rcases (hch b hb).1 with z | z
  ·exact hx z
  ·exact absurd (Nat.lt_of_lt_of_le (Heap.lt_size e) z) (Nat.lt_irrefl _)
 have cellK:∀ x c,X.env.cells.lookup x=some c->∀ v,s.heap.IsCell c v->h'.IsCell c v:=λ x c e v ⟨o,ho,hd⟩=>by
  have nch:c∉ch:=λ z=>(hch c z).2.2.1 x c e rfl;by_cases hc:c∈X.fs
  ·obtain ⟨sl,q⟩:=slot c o (I.cne x c e) hc nch ho (I.freeC x c e);exact ⟨_,q,hd⟩
  ·exact ⟨o,keep c o (I.cne x c e) hc nch ho (I.freeC x c e),hd⟩
 refine ⟨I.ok,I.os,hg,⟨λ b o e n hb hx=>?_,λ b o e n hb hx=>?_,λ b o e n hx=>?_,λ b o e hx=>?_,λ b xs e=>tups b xs (I.base.tups b xs e),λ b o xs e=>frzs b o xs (I.base.frzs b o xs e),λ b ps e=>?_⟩,?_,λ x c e=>?_,?_,λ x c e=>?_,λ p hp=>?_,hok,I.len⟩
 ·exact keep b o (neL b o e) hb (neC b o e hx) (I.base.keep b o e n hb hx) (I.base.free b o e n hx)
 ·obtain ⟨sl,e1⟩:=I.base.slot b o e n hb hx;obtain ⟨sl',e2⟩:=slot b _ (neL b o e) hb (neC b o e hx) e1 (I.base.free b o e n hx);exact ⟨sl',e2⟩
 ·obtain ⟨o',e1⟩:=I.base.there b o e hx;exact free b o' (neC b o e hx) e1 (I.base.free b o e n hx)
 ·obtain ⟨o',e1⟩:=I.base.there b o e hx;exact there b o' (neC b o e hx) e1
 ·obtain ⟨m1,e1⟩:=I.base.tbls b ps e;obtain ⟨m2,e2⟩:=tbls b _ e1;exact ⟨m1++m2,by rw [e2,Array.append_assoc]⟩
 ·obtain ⟨m,hn,hl⟩:=I.loc;refine ⟨m,ns m hn,λ i x v e1 e2 e3=>?_⟩;obtain ⟨u,r,l⟩:=hl i x v e1 e2 e3;refine ⟨u,r,?_⟩;rcases l with l | ⟨k,c,e,z⟩
  ·exact .inl l
  ·exact .inr ⟨k,c,e,cellK x c e _ z⟩
 ·obtain ⟨v,z⟩:=I.cell x c e;exact ⟨v,cellK x c e v z⟩
 ·obtain ⟨m,⟨o,_,_,ho,_⟩,_⟩:=I.loc;exact free _ o (λ z=>(hch _ z).2.1 rfl) ho I.free
 ·obtain ⟨v,o,ho,hd⟩:=I.cell x c e;exact free c o (λ z=>(hch c z).2.2.1 x c e rfl) ho (I.freeC x c e)
 ·obtain ⟨e,n,ne,nf,d⟩:=I.pin p hp;have nch:p.1∉ch:=λ z=>(hch p.1 z).2.2.2 p hp rfl;exact ⟨keep p.1 p.2 ne nf nch e n,free p.1 p.2 nch e n,ne,nf,d⟩
theorem Inv.un(I:Inv X pins σ H s)(u:Un X.fs [] H H' s.heap h')(hok:HOk X.prog X.w H' h'):Inv X pins σ H' { s with heap:=h',toks:=t' }:=by
 obtain ⟨m,⟨o,es,ep,ho,r⟩,_⟩:=id I.loc;obtain ⟨sl,hL⟩:=u.any ho I.free (by simp);exact I.step (g':=s.gens) (d':=s.drawn) (ch:=[]) (λ _ z=>nomatch z) (λ b o _ hb _ e n=>u.keep b o e n hb (by simp)) (λ b o _ hb _ e n=>u.slot b o e n hb (by simp)) (λ b o _ e n=>u.free b o e n (by simp)) (λ b o _ e=>u.there b o e (by simp)) u.tups u.frzs u.tbls (λ m' hm=>by
  obtain ⟨o',es',ep',ho',r'⟩:=hm;rw [ho] at ho';cases ho';exact ⟨_,es',ep',hL,r'⟩) hok I.bare
theorem Inv.call(I:Inv X pins σ H s)(u:Un (frs X.stack) ch H H' s.heap h')(hok:HOk X.prog X.w H' h')(hg:AllBare g')(hch:∀ b∈ch,(b∈X.ex\/X.s₀.heap.objs.size<=b)/\b≠X.env.locals/\(∀ x c,X.env.cells.lookup x=some c->c≠b)/\∀ p∈X.pn++pins,p.1≠b):
  Inv X pins σ H' { s with heap:=h',gens:=g',drawn:=d',toks:=t' }:=by
 obtain ⟨m,⟨o,es,ep,ho,r⟩,_⟩:=id I.loc;obtain ⟨sl,hL⟩:=u.any ho I.free λ z=>(hch _ z).2.1 rfl;exact I.step (ch:=ch) hch (λ b o hL hb hc e n=>u.keep b o e n (λ z=>(al_mc.mp (I.stkSub b z)).elim hL hb) hc) (λ b o _ _ hc e n=>u.any e n hc) (λ b o hc e n=>u.free b o e n hc) (λ b o hc e=>u.there b o e hc) u.tups u.frzs u.tbls (λ m' hm=>by
  obtain ⟨o',es',ep',ho',r'⟩:=hm;rw [ho] at ho';cases ho';exact ⟨_,es',ep',hL,r'⟩) hok hg
theorem Inv.turned(I:Inv X pins σ H s)(k:∀ b o,b≠it->s.heap.get? b=some o->h'.get? b=some o)(hn:H it=none)(hL:it≠X.env.locals)(h1:it∈X.ex\/X.s₀.heap.objs.size<=it)(h2:∀ x c,X.env.cells.lookup x=some c->c≠it)(h3:∀ p∈X.pn++pins,p.1≠it):Inv X pins σ H { s with heap:=h',toks:=t' }:=by
 have nit:∀ b u,H b=some u->b≠it:=λ b u e z=>by rw [z,hn] at e;cases e
 refine I.step (g':=s.gens) (d':=s.drawn) (ch:=[it]) (λ b hb=>?_) (λ b o _ _ hc e _=>k b o (λ z=>hc (by simp [z])) e) (λ b o _ _ hc e _=>⟨o.slots,k b o (λ z=>hc (by simp [z])) e⟩) (λ _ _ _ _ n=>n)
  (λ b o hc e=>⟨o,k b o (λ z=>hc (by simp [z])) e⟩) (λ _ _ e=>e) (λ _ _ _ e=>e) (λ b ps e=>⟨#[],by rw [e];simp⟩) (λ m hm=>?_) (λ b u e=>?_) I.bare
 ·have e:b=it:=by simpa using hb
  subst e;exact ⟨h1,hL,h2,h3⟩
 ·obtain ⟨o,es,ep,ho,r⟩:=hm;exact ⟨o,es,ep,k _ o (Ne.symm hL) ho,r⟩
 ·refine (I.hok b u e).stay (λ c v hc q=>k c v ?_ q) (λ _ q=>q) λ _ _ q=>q;rcases hc with z | z
  ·rw [z];exact nit b u e
  ·exact nit c _ z
theorem Inv.tok(I:Inv X pins σ H s)(t:Nat):Inv X pins σ H { s with toks:=t }:=I.un (h':=s.heap) (t':=t) Un.refl I.hok
theorem Inv.kept{t':Nat}(I:Inv X pins σ H s)(k:∀ b u,s.heap.get? b=some u->h'.get? b=some u):Inv X pins σ H { s with heap:=h',toks:=t' }:=I.un (Un.kept k) (I.hok.kept k)
theorem Inv.laid{a:Addr}{o:HO}{t':Nat}(I:Inv X pins σ H s)(k:∀ b u,s.heap.get? b=some u->h'.get? b=some u)(hp:s.heap.objs.size<=a)(new:ObjOk X.prog X.w (upd H a o) h' a o):
  Inv X pins σ (upd H a o) { s with heap:=h',toks:=t' }:=I.un (Un.laid k hp (I.hok.fresh hp)) (I.hok.laid k hp new)
theorem Inv.write{x e:Addr}{o:HO}{t':Nat}(I:Inv X pins σ H s)(mu:Mut (H x))(he:e=x\/H e=some (.own x))(k:∀ b u,b≠e->s.heap.get? b=some u->h'.get? b=some u)(heo:∃ u,h'.get? e=some u)(new:ObjOk X.prog X.w (upd H x o) h' x o):Inv X pins σ (upd H x o) { s with heap:=h',toks:=t' }:=I.un (Un.write mu he k heo) (I.hok.write mu he k heo new)
theorem Inv.weak{σ':List (Option V)}(I:Inv X pins σ H s)(hl:σ'.length=σ.length)(w:∀ (i:Nat) v,σ'[i]?=some (some v)->σ[i]?=some (some v)):Inv X pins σ' H s:=
 ⟨I.ok,I.os,I.bare,I.base,let ⟨m,hn,hl'⟩:=I.loc;⟨m,hn,λ i x v e1 e2 e3=>hl' i x v e1 (w i v e2) e3⟩,I.cell,I.free,I.freeC,I.pin,I.hok,hl.trans I.len⟩
theorem Inv.pins_of(I:Inv X pins σ H s)(h:∀ p∈pins',s.heap.get? p.1=some p.2/\H p.1=none/\p.1≠X.env.locals/\p.1∉X.fs/\∀ v,p.2.data≠.cell v):Inv X pins' σ H s:=
 ⟨I.ok,I.os,I.bare,I.base,I.loc,I.cell,I.free,I.freeC,λ p hp=>(al_mp.mp hp).elim (λ z=>I.pin p (List.mem_append_left _ z)) (h p),I.hok,I.len⟩
theorem eZ(hN:N.Nodup)(a:N[i]?=some x)(b:N[j]?=some x):i=j:=by
 obtain ⟨h1,e1⟩:=al_gs.mp a;obtain ⟨h2,e2⟩:=al_gs.mp b;exact (List.getElem_inj hN).mp (e1.trans e2.symm)
theorem yh{v:V}{Q:Unit->Shared->Prop}(I:Inv X pins σ H s)(hN:X.N.Nodup)(hi:X.N[i]?=some x)(hx:Loc X.env.scope x)(r:RelV v u)(h:∀ s',Inv X pins (σ.set i (some v)) H s'->(∃ a,Heap.SameBut a s.heap s'.heap/\(a=X.env.locals\/X.env.cells.lookup x=some a))->Q () s')(hf:X.fn x=true\/X.env.scope.names.lookup x=some .local:=by first | exact .inl rfl | exact .inr rfl | assumption):wpAny M A (storeName X.env x u) Q E s:=by
 obtain ⟨m,hn,hl⟩:=id I.loc;have hcls:(X.env.scope.kind == .class || (X.env.scope.kind == .module && X.env.locals != X.env.globals))=false:=by rw [I.ok.kind];rfl
 have hiσ:i < σ.length:=by rw [I.len];exact (al_gs.mp hi).1
 have cne:=I.cne;have tracked:∀ {a:Addr} {h':Heap},(∃ o,s.heap.get? a=some o/\H a=none)->Heap.SameBut a s.heap h'->HOk X.prog X.w H h':=λ {a h'} ha hs b ob e=>by
  obtain ⟨_,_,hfree⟩:=ha;refine (I.hok b ob e).stay (λ c w' hc q=>(hs.2 c ?_).trans q) (λ _ q=>q) λ _ _ q=>q;rintro rfl;rcases hc with rfl | hc
  ·rw [hfree] at e;cases e
  ·rw [hfree] at hc;cases hc
 rcases hx with hk | hk
 ·refine wpAny_storeName_local hk hn (λ h' hn' hs=>?_) hcls;obtain ⟨oL,_,_,hoL,_⟩:=id hn;refine h _ ⟨I.ok,I.os,I.bare,⟨λ b o e n hb hx=>?_,λ b o e n hb hx=>?_,I.base.free,λ b o e hx=>?_,I.base.tups,I.base.frzs,I.base.tbls⟩,⟨_,hn',λ j y v' e1 e2 e3=>?_⟩,λ y c e=>?_,I.free,I.freeC,λ p hp=>?_,tracked ⟨oL,hoL,I.free⟩ hs,by simpa using I.len⟩ ⟨_,hs,.inl rfl⟩
  ·exact (hs.2 b (Nat.ne_of_lt (Nat.lt_of_lt_of_le (Heap.lt_size e) I.ok.above))).trans (I.base.keep b o e n hb hx)
  ·obtain ⟨sl,e1⟩:=I.base.slot b o e n hb hx;exact ⟨sl,(hs.2 b (Nat.ne_of_lt (Nat.lt_of_lt_of_le (Heap.lt_size e) I.ok.above))).trans e1⟩
  ·obtain ⟨o',e1⟩:=I.base.there b o e hx;exact ⟨o',(hs.2 b (Nat.ne_of_lt (Nat.lt_of_lt_of_le (Heap.lt_size e) I.ok.above))).trans e1⟩
  ·by_cases hj:j=i
   ·subst hj;rw [hi] at e1;cases e1;rw [List.getElem?_set_self hiσ] at e2;cases e2;exact ⟨u,r,.inl ⟨hk,by simp⟩⟩
   ·rw [List.getElem?_set_ne (Ne.symm hj)] at e2;obtain ⟨u',r',q⟩:=hl j y v' e1 e2 e3;refine ⟨u',r',?_⟩;rcases q with ⟨k,e⟩ | ⟨k,c,e,z⟩
    ·refine .inl ⟨k,?_⟩;have:y≠x:=λ e=>hj (eZ hN e1 (e ▸ hi));simp [this,e]
    ·exact .inr ⟨k,c,e,z.sameBut hs (cne y c e)⟩
  ·obtain ⟨w',z⟩:=I.cell y c e;exact ⟨w',z.sameBut hs (cne y c e)⟩
  ·obtain ⟨e,n,ne,nf,d⟩:=I.pin p hp;exact ⟨(hs.2 p.1 ne).trans e,n,ne,nf,d⟩
 ·have hfn:X.fn x=true:=by
   rcases hf with z | z
   ·exact z
   ·rw [z] at hk;cases hk
  obtain ⟨c,hc⟩:=I.ok.has x (.inl hk);obtain ⟨w',z⟩:=I.cell x c hc;refine wpAny_storeName_cell I.ok.kind hk hc z (λ h' hc' hs=>?_);obtain ⟨oc,hoc,hocd⟩:=id z;refine h { s with heap:=h' } ⟨I.ok,I.os,I.bare,⟨λ b o e n hb hx=>?_,λ b o e n hb hx=>?_,I.base.free,λ b o e hx=>?_,I.base.tups,I.base.frzs,I.base.tbls⟩,⟨m,hn.sameBut hs (Ne.symm (cne x c hc)),λ j y v' e1 e2 e3=>?_⟩,λ y c' e=>?_,I.free,I.freeC,λ p hp=>?_,tracked ⟨oc,hoc,I.freeC x c hc⟩ hs,by simpa using I.len⟩ ⟨c,hs,.inr hc⟩
  ·exact (hs.2 b (Nat.ne_of_lt (Nat.lt_of_lt_of_le (Heap.lt_size e) (I.ok.cab x c hfn hc)))).trans (I.base.keep b o e n hb hx)
  ·obtain ⟨sl,e1⟩:=I.base.slot b o e n hb hx;exact ⟨sl,(hs.2 b (Nat.ne_of_lt (Nat.lt_of_lt_of_le (Heap.lt_size e) (I.ok.cab x c hfn hc)))).trans e1⟩
  ·obtain ⟨o',e1⟩:=I.base.there b o e hx;exact ⟨o',(hs.2 b (Nat.ne_of_lt (Nat.lt_of_lt_of_le (Heap.lt_size e) (I.ok.cab x c hfn hc)))).trans e1⟩
  ·by_cases hj:j=i
   ·subst hj;rw [hi] at e1;cases e1;rw [List.getElem?_set_self hiσ] at e2;cases e2;exact ⟨u,r,.inr ⟨.inl hk,c,hc,hc'⟩⟩
   ·rw [List.getElem?_set_ne (Ne.symm hj)] at e2;obtain ⟨u',r',q⟩:=hl j y v' e1 e2 e3;refine ⟨u',r',?_⟩;rcases q with q | ⟨k,c',e,z'⟩
    ·exact .inl q
    ·refine .inr ⟨k,c',e,z'.sameBut hs ?_⟩;rintro rfl;exact hj (eZ hN e1 (I.ok.inj _ _ _ e hc ▸ hi))
  ·by_cases hcc:c'=c
   ·subst hcc;exact ⟨_,hc'⟩
   ·obtain ⟨w2,z2⟩:=I.cell y c' e;exact ⟨w2,z2.sameBut hs hcc⟩
  ·obtain ⟨e,n,ne,nf,d⟩:=I.pin p hp;refine ⟨(hs.2 p.1 ?_).trans e,n,ne,nf,d⟩;intro q;rw [q,hoc] at e;have q':oc=p.2:=Option.some.inj e;exact d w' (by rw [← q'];exact hocd)
theorem jP{v:V}{Q:Unit->Shared->Prop}(I:Inv X pins σ H s)(hN:X.N.Nodup)(hi:X.N[i]?=some x)(hx:Loc X.env.scope x)(r:RelV v u)(h:∀ s',Inv X pins (σ.set i (some v)) H s'->Q () s')(hf:X.fn x=true\/X.env.scope.names.lookup x=some .local:=by first | exact .inl rfl | exact .inr rfl | assumption):wpAny M A (storeName X.env x u) Q E s:=
 yh I hN hi hx r (λ s' I' _=>h s' I') hf
theorem Inv.call'(I:Inv X pins σ H s)(ho:s'.os=s.os)(u:Un (frs X.stack) ch H H' s.heap s'.heap)(hok:HOk X.prog X.w H' s'.heap)(hg:AllBare s'.gens)(hch:∀ b∈ch,(b∈X.ex\/X.s₀.heap.objs.size<=b)/\b≠X.env.locals/\(∀ x c,X.env.cells.lookup x=some c->c≠b)/\∀ p∈X.pn++pins,p.1≠b):Inv X pins σ H' s':=by
 obtain ⟨h',g',d',t',o'⟩:=s';have e:o'=s.os:=ho;subst e;exact I.call (g':=g') (t':=t') (d':=d') u hok hg hch
end
noncomputable abbrev XK:=Value->Option Addr->Hp->Prop
noncomputable abbrev St:=List (Option V)
variable {σ:St}
noncomputable abbrev VK:=V->Hp->Prop
variable {r:V->List V->Hp->VK->Prop}
noncomputable abbrev TE:=St->Hp->VK->Prop
variable {ta td te ti tl to tv:TE}
noncomputable abbrev TT:=St->Hp->(Bool->Hp->Prop)->Prop
variable {tc:TT}
noncomputable abbrev TA:=St->Hp->(List V->Hp->Prop)->Prop
structure eO where
 nx:St->Hp->Prop
 rt:VK
 bk:St->Hp->Prop:=λ _ _=>False
 ct:St->Hp->Prop:=λ _ _=>False
variable {D:eO}
noncomputable abbrev TS:=eO->St->Hp->Prop
variable {tb:TS}
noncomputable def EP(X:Cx)(pins:List (Addr × Obj))(σ:St)(Q:VK)(u:Value)(s':Shared):Prop:=∃ v H',Inv X pins σ H' s'/\RelV v u/\Q v H'
noncomputable def TP(X:Cx)(pins:List (Addr × Obj))(σ:St)(Q:Bool->Hp->Prop)(b:Bool)(s':Shared):Prop:=∃ H',Inv X pins σ H' s'/\Q b H'
noncomputable def AP(X:Cx)(pins:List (Addr × Obj))(σ:St)(Q:List V->Hp->Prop)(us:List Value)(s':Shared):Prop:=∃ vs H',Inv X pins σ H' s'/\Vals vs us/\Q vs H'
noncomputable def SP(X:Cx)(pins:List (Addr × Obj))(D:eO)(f:Flow)(s':Shared):Prop:=
 match f with
 | .next=>∃ σ' H',Inv X pins σ' H' s'/\D.nx σ' H'
 | .brk=>∃ σ' H',Inv X pins σ' H' s'/\D.bk σ' H'
 | .cont=>∃ σ' H',Inv X pins σ' H' s'/\D.ct σ' H'
 | .ret u=>∃ v σ' H',Inv X pins σ' H' s'/\RelV v u/\D.rt v H'
noncomputable def PE(X:Cx)(e:Expr)(t:TE):Prop:=
 ∀ (pins:List (Addr × Obj)) (s:Shared) (σ:St) (H:Hp) (Q:VK),Inv X pins σ H s->t σ H Q->wpAny (model X.prog X.w) X.A (eval e X.env) (EP X pins σ Q) X.xe s
noncomputable def PT(X:Cx)(e:Expr)(t:TT):Prop:=
 ∀ (pins:List (Addr × Obj)) (s:Shared) (σ:St) (H:Hp) (Q:Bool->Hp->Prop),Inv X pins σ H s->t σ H Q->wpAny (model X.prog X.w) X.A (isTrue e X.env (eval e X.env)) (TP X pins σ Q) X.xe s
noncomputable def PW(X:Cx)(e:Expr)(t:TT):Prop:=
 ∀ (whole:Sem Value) (pins:List (Addr × Obj)) (s:Shared) (σ:St) (H:Hp) (Q:Bool->Hp->Prop),Inv X pins σ H s->t σ H Q->wpAny (model X.prog X.w) X.A (isTrue e X.env whole) (TP X pins σ Q) X.xe s
theorem PW.pt{t:TT}(h:PW X e t):PT X e t:=h _
noncomputable def PA(X:Cx)(es:List Expr)(t:TA):Prop:=
 ∀ (pos:Pos) (pins:List (Addr × Obj)) (s:Shared) (σ:St) (H:Hp) (Q:List V->Hp->Prop),Inv X pins σ H s->t σ H Q->wpAny (model X.prog X.w) X.A (spliced (backTo pos (starEach es X.env))) (AP X pins σ Q) X.xe s
noncomputable def PS(X:Cx)(st:Stmt)(t:TS):Prop:=
 ∀ (pins:List (Addr × Obj)) (s:Shared) (σ:St) (H:Hp) (D:eO),Inv X pins σ H s->t D σ H->wpAny (model X.prog X.w) X.A (exec st X.env) (SP X pins D) X.xe s
noncomputable def PSs(X:Cx)(st:List Stmt)(t:TS):Prop:=
 ∀ (pins:List (Addr × Obj)) (s:Shared) (σ:St) (H:Hp) (D:eO),Inv X pins σ H s->t D σ H->wpAny (model X.prog X.w) X.A (execs st X.env) (SP X pins D) X.xe s
theorem thn{t:Sem α}{Q Q':α->Shared->Prop}(h:wpAny M A t Q E s)(hQ:∀ a s,Q a s->Q' a s):wpAny M A t Q' E s:=wpAny_mono h hQ λ _ _ x=>x
section
theorem bin{a b:Expr}{tb:TE}(ha:PE X a ta)(hb:PE X b tb){R:V->V->Hp->Prop}(I:Inv X pins σ H s)(h:ta σ H λ x H1=>tb σ H1 λ y H2=>R x y H2){Q:α->Shared->Prop}{f:Value->Value->Sem α}(hf:∀ v u s2 x y H2,Inv X pins σ H2 s2->RelV x v->RelV y u->R x y H2->wpAny (model X.prog X.w) X.A (f v u) Q X.xe s2):
    wpAny (model X.prog X.w) X.A (eval a X.env) (λ v s₁=>wpAny (model X.prog X.w) X.A (eval b X.env) (λ u s₂=>wpAny (model X.prog X.w) X.A (f v u) Q X.xe s₂) X.xe s₁) X.xe s:=by
  refine thn (ha pins s σ H _ I h) λ v s1 ⟨x,H1,I1,r1,q1⟩=>?_;refine thn (hb pins s1 σ H1 _ I1 q1) λ u s2 ⟨y,H2,I2,r2,q2⟩=>?_;exact hf v u s2 x y H2 I2 r1 r2 q2
noncomputable def cj(i:Nat):TE:=λ σ H Q=>∃ v,σ[i]?=some (some v)/\Q v H
noncomputable def tC(v:V):TE:=λ _ H Q=>Q v H
theorem zhp(hN:X.N[i]?=some x)(hv:Vis X.env.scope x)(hd:(x == ("__debug__" : Str))=false:=by decide)(hcd:(x == ("__classdict__" : Str))=false:=by decide):PE X (.Name x pos) (cj i):=by
 intro pins s σ H Q I h;obtain ⟨v,e,h⟩:=h;obtain ⟨m,hn,hl⟩:=I.loc;obtain ⟨u,r,l⟩:=hl i x v hN e hv;have fin:EP X pins σ Q u s:=⟨v,H,I,r,h⟩
 rcases l with ⟨hk,hm⟩ | ⟨hk,c,hc,hcell⟩
 ·exact wpAny_Name (wpAny_loadName_local I.ok.kind hk hn hm fin) hd
 ·rcases hk with hk | hk
  ·exact wpAny_Name (wpAny_loadName_cell I.ok.kind hk hc hcell fin) hd
  ·exact wpAny_Name (wpAny_loadName_free I.ok.kind hk hc hcell fin hcd) hd
theorem aq{i j pos}:PE X (.Constant (.int i) j pos) (tC (.int i)):=λ _ _ _ H _ I h=>wpAny_Constant_int ⟨.int i,H,I.tok _,⟨_,rfl⟩,h⟩
theorem eF{b j pos}:PE X (.Constant (.bool b) j pos) (tC (.bl b)):=λ _ _ _ H _ I h=>Constant_bool ⟨.bl b,H,I,rfl,h⟩
theorem bx{j pos}:PE X (.Constant .none j pos) (tC .non):=λ _ _ _ H _ I h=>Constant_none ⟨.non,H,I,rfl,h⟩
theorem aD{x j pos}:PE X (.Constant (.str x) j pos) (tC (.str x)):=λ _ _ _ H _ I h=>Calls.Constant_str ⟨.str x,H,I.tok _,⟨_,rfl⟩,h⟩
noncomputable def Gl(X:Cx)(x:Str):Prop:=X.env.kindOf x=some .globalImplicit
theorem gZ(I:Inv X pins σ H s)(hg:Gl X x)(hm:X.mg x=some u)(h:Q u s)(hd:(x == ("__debug__" : Str))=false:=by decide):wpAny (model X.prog X.w) X.A (eval (.Name x pos) X.env) Q E s:=
 Calls.Name_function_global I.ok.kind hg (Calls.loadGlobal_global (by rw [I.ok.glob];exact I.mod.glob.keeps I.bk) hm h) hd
theorem fb(I:Inv X pins σ H s)(hg:Gl X x)(hm:X.mg x=none)(hv:bootBuiltins x=some u)(h:Q u s)(hn:x ≠ "__name__" := by decide)(hd:(x == ("__debug__" : Str))=false:=by decide):wpAny (model X.prog X.w) X.A (eval (.Name x pos) X.env) Q E s:=by
 obtain ⟨mb,h1,h2⟩:=I.mod.blt;exact Calls.Name_function_global I.ok.kind hg (Calls.loadGlobal_builtin (by rw [I.ok.glob];exact I.mod.glob.keeps I.bk) hm (by rw [I.ok.blt];exact h1.keeps I.bk) ((h2 x hn).trans hv) h) hd
theorem wz{v:V}(hg:Gl X x)(hm:X.mg x=some u)(r:RelV v u)(hd:(x == ("__debug__" : Str))=false:=by decide):PE X (.Name x pos) (tC v):=
 λ _ _ _ H _ I h=>gZ I hg hm ⟨v,H,I,r,h⟩ hd
theorem zhi{v:V}(hg:Gl X x)(hm:X.mg x=none)(hv:bootBuiltins x=some u)(r:RelV v u)(hn:x ≠ "__name__" := by decide)(hd:(x == ("__debug__" : Str))=false:=by decide):PE X (.Name x pos) (tC v):=
 λ _ _ _ H _ I h=>fb I hg hm hv ⟨v,H,I,r,h⟩ hn hd
variable {a b:Expr} {tb:TE}
noncomputable def PC(X:Cx)(op:CmpOp)(a b:Expr)(t:TE):Prop:=
 ∀ (pins:List (Addr × Obj)) (s:Shared) (σ:St) (H:Hp) (Q:VK),Inv X pins σ H s->t σ H Q->
  wpAny (model X.prog X.w) X.A (eval a X.env) (λ v s₁=>wpAny (model X.prog X.w) X.A (eval b X.env) (λ u s₂=>wpAny (model X.prog X.w) X.A (compareOp op v u) (EP X pins σ Q) X.xe s₂) X.xe s₁) X.xe s
theorem zfs(b:Expr)(h:op≠.In)(h2:op≠.NotIn):behindInMarks op b=false:=by
 have e1:(op == CmpOp.In)=false:=by cases op <;> first | rfl | exact absurd rfl h
 have e2:(op == CmpOp.NotIn)=false:=by cases op <;> first | rfl | exact absurd rfl h2
 cases b <;> simp [behindInMarks,e1,e2]
noncomputable def tB(t:TE):TT:=λ σ H Q=>t σ H λ x H1=>∃ c,x = .bl c/\Q c H1
theorem wM{t:TE}(h:PC X op a b t)(h1:behindInMarks op b=false:=by first | exact zfs _ (by decide) (by decide) | rfl):PT X (.Compare a [op] [b] pos) (tB t):=by
 intro pins s σ H Q I hw;refine wpAny_isTrue_Compare1 (thn (h pins s σ H _ I hw) λ v s1 h1=>thn h1 λ u s2 h2=>thn h2 λ c s3 ⟨x,H1,I1,r1,q1⟩=>?_) h1;obtain ⟨d,rfl,q⟩:=q1;cases r1;exact wpAny_truthy_bool ⟨H1,I1,q⟩
theorem fg{t:TE}(h:PE X e t)(he:∀ whole,isTrue e X.env whole=(do let v ← whole;standAt e.pos;holding [v] (truthy v)):=by intro _;rfl):PT X e (tB t):=by
 intro pins s σ H Q I hw;refine isTrue_plain (thn (h pins s σ H _ I hw) λ v s1 ⟨x,H1,I1,r1,q1⟩=>?_) (he _);obtain ⟨d,rfl,q⟩:=q1;cases r1;exact wpAny_truthy_bool ⟨H1,I1,q⟩
variable {tA tB':TT} {rest:List Expr}
noncomputable def yj(t u:TT):TT:=λ σ H Q=>t σ H λ c H1=>if c=true then u σ H1 Q else Q false H1
noncomputable def tOr(t u:TT):TT:=λ σ H Q=>t σ H λ c H1=>if c=true then Q true H1 else u σ H1 Q
noncomputable def yr(t:TT):TT:=λ σ H Q=>t σ H λ c H1=>Q (!c) H1
theorem jC(ha:PT X a tA):PW X (.BoolOp .And [a] pos) tA:=by
 intro wh pins s σ H Q I h;refine isTrue_and (thn (ha pins s σ H Q I h) λ c s1 e=>?_);cases c with
 | true=>exact isTrue_and_nil e
 | false=>exact e
theorem ie(ha:PT X a tA):PW X (.BoolOp .Or [a] pos) tA:=by
 intro wh pins s σ H Q I h;refine isTrue_or (thn (ha pins s σ H Q I h) λ c s1 e=>?_);cases c with
 | false=>exact isTrue_or_nil e
 | true=>exact e
theorem jB(ha:PT X a tA)(hb:PW X (.BoolOp .And (b::rest) pos) tB'):PW X (.BoolOp .And (a::b::rest) pos) (yj tA tB'):=by
 intro wh pins s σ H Q I h;refine isTrue_and (thn (ha pins s σ H _ I h) λ c s1 ⟨H1,I1,q1⟩=>?_);cases c with
 | true=>exact hb wh pins s1 σ H1 Q I1 q1
 | false=>exact ⟨H1,I1,q1⟩
theorem hZ(ha:PT X a tA)(hb:PW X (.BoolOp .Or (b::rest) pos) tB'):PW X (.BoolOp .Or (a::b::rest) pos) (tOr tA tB'):=by
 intro wh pins s σ H Q I h;refine isTrue_or (thn (ha pins s σ H _ I h) λ c s1 ⟨H1,I1,q1⟩=>?_);cases c with
 | true=>exact ⟨H1,I1,q1⟩
 | false=>exact hb wh pins s1 σ H1 Q I1 q1
theorem fG(ha:PT X a tA):PT X (.UnaryOp .Not a pos) (yr tA):=by
 intro pins s σ H Q I h;exact isTrue_not (ha pins s σ H (λ c H1=>Q (!c) H1) I h)
noncomputable def zjl(ta tb:TE):TE:=λ σ H Q=>ta σ H λ x H1=>∃ c,x = .bl c/\if c=true then tb σ H1 Q else Q (.bl false) H1
noncomputable def zjA(ta tb:TE):TE:=λ σ H Q=>ta σ H λ x H1=>∃ c,x = .bl c/\if c=true then Q (.bl true) H1 else tb σ H1 Q
noncomputable def zjz(ta:TE):TE:=λ σ H Q=>ta σ H λ x H1=>∃ c,x = .bl c/\Q (.bl (!c)) H1
theorem fF{op}{t:TE}(h:PE X a t):PE X (.BoolOp op [a] pos) t:=λ pins s σ H Q I hw=>BoolOp_one (h pins s σ H Q I hw)
theorem gD(ha:PE X a ta)(hb:PE X (.BoolOp .And (b::rest) pos) tb):PE X (.BoolOp .And (a::b::rest) pos) (zjl ta tb):=by
 intro pins s σ H Q I h;refine BoolOp_and (thn (ha pins s σ H _ I h) λ v s1 ⟨x,H1,I1,r1,q1⟩=>?_);obtain ⟨c,rfl,q1⟩:=q1;cases r1;refine wpAny_truthy_bool ?_;cases c with
 | true=>exact hb pins s1 σ H1 Q I1 q1
 | false=>exact ⟨.bl false,H1,I1,rfl,q1⟩
theorem oG(ha:PE X a ta)(hb:PE X (.BoolOp .Or (b::rest) pos) tb):PE X (.BoolOp .Or (a::b::rest) pos) (zjA ta tb):=by
 intro pins s σ H Q I h;refine BoolOp_or (thn (ha pins s σ H _ I h) λ v s1 ⟨x,H1,I1,r1,q1⟩=>?_);obtain ⟨c,rfl,q1⟩:=q1;cases r1;refine wpAny_truthy_bool ?_;cases c with
 | false=>exact hb pins s1 σ H1 Q I1 q1
 | true=>exact ⟨.bl true,H1,I1,rfl,q1⟩
theorem wA(ha:PE X a ta):PE X (.UnaryOp .Not a pos) (zjz ta):=by
 intro pins s σ H Q I h;refine UnaryOp_ (thn (ha pins s σ H _ I h) λ v s1 ⟨x,H1,I1,r1,q1⟩=>?_);obtain ⟨c,rfl,q1⟩:=q1;cases r1;exact not_of (wpAny_truthy_bool ⟨.bl (!c),H1,I1,rfl,q1⟩)
noncomputable def tIf(t:TT)(ta tb:TE):TE:=λ σ H Q=>t σ H λ c H1=>if c=true then ta σ H1 Q else tb σ H1 Q
theorem dB(hc:PT X c tA)(ha:PE X a ta)(hb:PE X b tb):PE X (.IfExp c a b pos) (tIf tA ta tb):=by
 intro pins s σ H Q I h;refine wpAny_IfExp (thn (hc pins s σ H _ I h) λ d s1 ⟨H1,I1,q1⟩=>?_);cases d with
 | true=>exact ha pins s1 σ H1 Q I1 q1
 | false=>exact hb pins s1 σ H1 Q I1 q1
end
noncomputable def SqL(K:W.Frag)(H:Hp)(a:Addr)(xs:List V):Prop:=
 Rd H a (.lst xs)\/
  ∃ (o:Obj) (its:Array Value) (n:Nat),K.lookup a=some o/\o.cls = .type "list" /\ o.dict=none/\o.data = .seq its n/\its.size<=sizeLine/\Vals xs its.toList
noncomputable def SqT(K:W.Frag)(H:Hp)(a:Addr)(xs:List V):Prop:=
 Rd H a (.tup xs)\/
  ∃ (o:Obj) (its:Array Value) (n:Nat),K.lookup a=some o/\o.cls = .type "tuple" /\ o.data = .seq its n/\its.size<=sizeLine/\Vals xs its.toList
noncomputable def sU:Value->Option V
 | .none=>some .non
 | .bool b=>some (.bl b)
 | .int i _=>some (.int i)
 | .str x _=>some (.str x)
 | .bytes b _=>some (.byt b)
 | .float b _=>some (.flt b)
 | .ref a=>some (.ref a)
 | .type n=>some (.ty n)
 | _=>none
theorem RelV.abs{x:V}(r:RelV x u):sU u=some x:=by
 cases x with
 | non=>cases r;rfl
 | bl _=>cases r;rfl
 | int _=>obtain ⟨t,rfl⟩:=r;rfl
 | str _=>obtain ⟨t,rfl⟩:=r;rfl
 | byt _=>obtain ⟨t,rfl⟩:=r;rfl
 | flt _=>obtain ⟨t,rfl⟩:=r;rfl
 | ref _=>cases r;rfl
 | ty _=>cases r;rfl
theorem RelV.inj{x y:V}{u:Value}(r:RelV x u)(q:RelV y u):x=y:=Option.some.inj (r.abs.symm.trans q.abs)
theorem Vals.inj:∀ {xs ys:List V} {us:List Value},Vals xs us->Vals ys us->xs=ys
 | _,_,_,.nil,.nil=>rfl
 | _,_,_,.cons r t,.cons r' t'=>by rw [r.inj r',Vals.inj t t']
section
variable {xs:List V}
theorem SqL.of(h:H a=some (.lst xs)):SqL K H a xs:=.inl (.inl h)
theorem SqT.of(h:H a=some (.tup xs)):SqT K H a xs:=.inl (.inl h)
theorem Inv.list(I:Inv X pins σ H s)(h:SqL X.K H a xs):∃ its:List Value,Vals xs its/\PlainL s.heap a its.toArray/\xs.length<=sizeLine:=by
 rcases h with h | ⟨o,its,n,hk,hc,hd,hs,hz,r⟩
 ·obtain ⟨z,its,n,r,e⟩:=h.ok I.hok;exact ⟨its,r,⟨_,n,e,rfl,rfl,rfl⟩,z⟩
 ·refine ⟨its.toList,r,⟨o,n,I.kIn a o hk,hc,hd,by simpa using hs⟩,?_⟩;have e:=r.length;simp only [Array.length_toList] at e;omega
theorem Inv.tuple(I:Inv X pins σ H s)(h:SqT X.K H a xs):∃ its:List Value,Vals xs its/\IsTup s.heap a its.toArray/\xs.length<=sizeLine:=by
 rcases h with h | ⟨o,its,n,hk,hc,hs,hz,r⟩
 ·obtain ⟨z,its,r,p⟩:=h.ok I.hok;exact ⟨its,r,p,z⟩
 ·refine ⟨its.toList,r,⟨o,I.kIn a o hk,hc,n,by simpa using hs⟩,?_⟩;have e:=r.length;simp only [Array.length_toList] at e;omega
theorem Inv.list_inj(I:Inv X pins σ H s)(h:SqL X.K H a xs)(h':SqL X.K H a ys):xs=ys:=by
 obtain ⟨its,r,⟨o,n,e,_,_,d⟩,_⟩:=I.list h;obtain ⟨its',r',⟨o',n',e',_,_,d'⟩,_⟩:=I.list h';rw [e] at e';cases e';rw [d] at d';injection d' with d1 _
 have:its=its':=by simpa using congrArg Array.toList d1
 subst this;exact r.inj r'
end
noncomputable abbrev Cx.wish(X:Cx)(E:Value->Shared->Prop):Cx:={ X with xe:=E }
noncomputable abbrev Cx.nox(X:Cx):Cx:=X.wish λ _ _=>False
theorem Cx.Ok.wish(ok:X.Ok)(E:Value->Shared->Prop):(X.wish E).Ok:=
 ⟨ok.mod,ok.kind,ok.glob,ok.blt,ok.above,ok.inj,ok.has,ok.cab,ok.hd,ok.frames,ok.stk,ok.exf,ok.bs,ok.bsz,ok.noex,ok.exfs,ok.funs,ok.frf⟩
theorem Cx.Ok.unwish(ok:(X.wish E).Ok):X.Ok:=
 ⟨ok.mod,ok.kind,ok.glob,ok.blt,ok.above,ok.inj,ok.has,ok.cab,ok.hd,ok.frames,ok.stk,ok.exf,ok.bs,ok.bsz,ok.noex,ok.exfs,ok.funs,ok.frf⟩
theorem Inv.wish(I:Inv X pins σ H s)(E:Value->Shared->Prop):Inv (X.wish E) pins σ H s:=⟨I.ok.wish E,I.os,I.bare,I.base,I.loc,I.cell,I.free,I.freeC,I.pin,I.hok,I.len⟩
theorem Inv.unwish(I:Inv (X.wish E) pins σ H s):Inv X pins σ H s:=⟨I.ok.unwish,I.os,I.bare,I.base,I.loc,I.cell,I.free,I.freeC,I.pin,I.hok,I.len⟩
theorem SP.unwish{D:eO}{f:Flow}{s':Shared}(h:SP (X.wish E) pins D f s'):SP X pins D f s':=by
 cases f with
 | next=>obtain ⟨σ',H',I,q⟩:=h;exact ⟨σ',H',I.unwish,q⟩
 | brk=>obtain ⟨σ',H',I,q⟩:=h;exact ⟨σ',H',I.unwish,q⟩
 | cont=>obtain ⟨σ',H',I,q⟩:=h;exact ⟨σ',H',I.unwish,q⟩
 | ret u=>obtain ⟨v,σ',H',I,r,q⟩:=h;exact ⟨v,σ',H',I.unwish,r,q⟩
theorem PE.nox{t:TE}(h:PE X.nox e t):PE X e t:=λ pins s σ H Q I hw=>
 wpAny_mono (h pins s σ H Q (I.wish _) hw) (λ _ _ ⟨v,H',I',r,q⟩=>⟨v,H',I'.unwish,r,q⟩) λ _ _ z=>False.elim z
theorem PT.nox{t:TT}(h:PT X.nox e t):PT X e t:=λ pins s σ H Q I hw=>
 wpAny_mono (h pins s σ H Q (I.wish _) hw) (λ _ _ ⟨H',I',q⟩=>⟨H',I'.unwish,q⟩) λ _ _ z=>False.elim z
theorem PSs.nox{st:List Stmt}{t:TS}(h:PSs X.nox st t):PSs X st t:=λ pins s σ H D I hw=>
 wpAny_mono (h pins s σ H D (I.wish _) hw) (λ _ _ q=>q.unwish) λ _ _ z=>False.elim z
section
variable {rest:List Stmt} {t u:TS}
noncomputable def rR:TS:=λ D σ H=>D.nx σ H
noncomputable def ip(t u:TS):TS:=λ D σ H=>t { D with nx:=u D } σ H
theorem bq:PSs X [] rR:=λ _ _ σ H _ I h=>wpAny_execs_nil ⟨σ,H,I,h⟩
theorem ao(h1:PS X st t)(h2:PSs X rest u):PSs X (st::rest) (ip t u):=by
 intro pins s σ H D I h;refine wpAny_execs_cons (thn (h1 pins s σ H { D with nx:=u D } I h) λ f s1 q=>?_);cases f with
 | next=>
  obtain ⟨σ',H',I',q⟩:=q;exact h2 pins s1 σ' H' D I' q
 | ret v=>exact q
 | brk=>exact q
 | cont=>exact q
theorem am(h1:PS X st t):PSs X [st] t:=by
 intro pins s σ H D I h;refine wpAny_execs_cons (thn (h1 pins s σ H D I h) λ f s1 q=>?_);cases f with
 | next=>exact wpAny_execs_nil q
 | ret v=>exact q
 | brk=>exact q
 | cont=>exact q
theorem Inv.quiet(I:Inv X pins σ H s):interactive X.env=false:=by simp [interactive,I.ok.kind]
noncomputable def yp(te:TE):TS:=λ D σ H=>te σ H λ _ H1=>D.nx σ H1
theorem bP(he:PE X e te)(hs:swapsWith e none pos.line X.env=pure false:=by rfl):PS X (.Expr e pos) (yp te):=by
 intro pins s σ H D I h;exact wpAny_Expr_any (thn (he pins s σ H _ I h) λ v s1 ⟨x,H1,I1,r1,q1⟩=>⟨σ,H1,I1,q1⟩) I.quiet hs
noncomputable def yt(te:TE):TS:=λ D σ H=>te σ H D.rt
theorem aC(he:PE X e te):PS X (.Return (some e) pos) (yt te):=by
 intro pins s σ H D I h;exact wpAny_Return_some (thn (he pins s σ H _ I h) λ v s1 ⟨x,H1,I1,r1,q1⟩=>⟨x,σ,H1,I1,r1,q1⟩)
noncomputable def lC(c:TT)(t u:TS):TS:=λ D σ H=>c σ H λ b H1=>if b=true then t D σ H1 else u D σ H1
theorem a8{a b:List Stmt}(hc:PT X c tc)(ha:PSs X a t)(hb:PSs X b u):PS X (.If c a b pos) (lC tc t u):=by
 intro pins s σ H D I h;refine wpAny_If (thn (hc pins s σ H _ I h) λ d s1 ⟨H1,I1,q1⟩=>?_);cases d with
 | true=>exact ha pins s1 σ H1 D I1 q1
 | false=>exact hb pins s1 σ H1 D I1 q1
noncomputable def zjx:TS:=λ _ _ _=>False
theorem oO{sts:List Stmt}:PSs X sts zjx:=λ _ _ _ _ _ _ h=>h.elim
end
noncomputable abbrev TG:=V->St->Hp->(St->Hp->Prop)->Prop
variable {g:TG}
noncomputable abbrev TGs:=List V->St->Hp->(St->Hp->Prop)->Prop
noncomputable def PG(X:Cx)(target:Expr)(t:TG):Prop:=
 ∀ (pins:List (Addr × Obj)) (s:Shared) (σ:St) (H:Hp) (v:V) (u:Value) (Q:St->Hp->Prop),Inv X pins σ H s->RelV v u->t v σ H Q->
  wpAny (model X.prog X.w) X.A (assign target X.env u) (λ _ s'=>∃ σ' H',Inv X pins σ' H' s'/\Q σ' H') X.xe s
noncomputable def PGs(X:Cx)(ts:List Expr)(t:TGs):Prop:=
 ∀ (pins:List (Addr × Obj)) (s:Shared) (σ:St) (H:Hp) (vs:List V) (us:List Value) (Q:St->Hp->Prop),Inv X pins σ H s->Vals vs us->t vs σ H Q->
  wpAny (model X.prog X.w) X.A (assignInOrder ((assignEach ts X.env).map (·.2)) us) (λ _ s'=>∃ σ' H',Inv X pins σ' H' s'/\Q σ' H') X.xe s
noncomputable abbrev my:=V->V->V->Hp->(Hp->Prop)->Prop
noncomputable def sP(X:Cx)(t:my):Prop:=
 ∀ (pins:List (Addr × Obj)) (s:Shared) (σ:St) (H:Hp) (o i v:V) (ov iv u:Value) (Q:Hp->Prop),Inv X pins σ H s->RelV o ov->RelV i iv->RelV v u->t o i v H Q->
  wpAny (model X.prog X.w) X.A (setItem ov iv u) (λ _ s'=>∃ H',Inv X pins σ H' s'/\Q H') X.xe s
noncomputable abbrev TIp:=V->V->Hp->VK->Prop
noncomputable def PIp(X:Cx)(op:Operator)(t:TIp):Prop:=
 ∀ (pins:List (Addr × Obj)) (s:Shared) (σ:St) (H:Hp) (x y:V) (v u:Value) (Q:VK),Inv X pins σ H s->RelV x v->RelV y u->t x y H Q->
  wpAny (model X.prog X.w) X.A (inplaceOp op v u) (EP X pins σ Q) X.xe s
noncomputable def cR(i:Nat):TG:=λ v σ H Q=>Q (σ.set i (some v)) H
theorem aU(hN:X.N.Nodup)(hi:X.N[i]?=some x)(hx:Loc X.env.scope x)(hf:X.fn x=true\/X.env.scope.names.lookup x=some .local:=by first | exact .inl rfl | exact .inr rfl | assumption):PG X (.Name x pos) (cR i):=by
 intro pins s σ H v u Q I r h;exact wpAny_assign_Name (jP I hN hi hx r (λ s' I'=>⟨_,H,I',h⟩) hf)
noncomputable def zb0:TGs:=λ vs σ H Q=>vs=[]/\Q σ H
noncomputable def zbZ(t:TG)(u:TGs):TGs:=λ vs σ H Q=>∃ v r,vs=v::r/\t v σ H λ σ' H'=>u r σ' H' Q
theorem gF:PGs X [] zb0:=by
 intro pins s σ H vs us Q I r h;obtain ⟨e,h⟩:=h;subst e;cases r;exact assignInOrder_nil ⟨σ,H,I,h⟩
theorem dC{t:TG}{u:TGs}(h1:PG X e t)(h2:PGs X es u)(hs:(assignEach (e::es) X.env).map (·.2)=assign e X.env::(assignEach es X.env).map (·.2):=by rfl):PGs X (e::es) (zbZ t u):=by
 intro pins s σ H vs us Q I r h;obtain ⟨v,vr,e1,h⟩:=h;subst e1;cases r with
 | cons r rr=>
  rw [hs];refine assignInOrder_cons (thn (h1 pins s σ H _ _ _ I r h) λ _ s1 ⟨σ1,H1,I1,q1⟩=>?_);exact h2 pins s1 σ1 H1 _ _ Q I1 rr q1
noncomputable def uY(K:W.Frag)(n:Nat)(t:TGs):TG:=λ v σ H Q=>∃ a xs,v = .ref a/\SqT K H a xs/\xs.length=n/\t xs σ H Q
theorem zhr{k:Nat}{t:TGs}(hc:X.calm=true)(h:PGs X es t)(hn:(assignEach es X.env).length=n:=by rfl)(hst:(assignEach es X.env).findIdx? (·.1)=none:=by rfl):PG X (.Tuple es k pos) (uY X.K n t):=by
 intro pins s σ H v u Q I r hw;obtain ⟨a,xs,e1,hq,hl,hw⟩:=hw;subst e1;cases r;obtain ⟨its,rv,ht,hz⟩:=I.tuple hq;refine assign_Tuple_tuple (I.ok.hd hc) ht (by simp [hn,← hl,rv.length]) hst λ h' hx=>?_;have I1:Inv X pins σ H { s with heap:=h' }:=I.kept (t':=s.toks) λ b o e=>hx b o (Nat.ne_of_lt (Heap.lt_size e)) e;exact h pins _ σ H xs _ Q I1 (by simpa using rv) hw
noncomputable def zb4(to ti:TE)(t:my):TG:=λ v σ H Q=>to σ H λ o H1=>ti σ H1 λ i H2=>t o i v H2 λ H3=>Q σ H3
theorem zhq{o i:Expr}{t:my}(ho:PE X o to)(hi:PE X i ti)(hs:sP X t)(ha:∀ v,assign (.Subscript o i pos) X.env v=(do
   let ov ← holding [v] (eval o X.env);let iv ← holding [v,ov] (eval i X.env)
   standAt pos
   holding [v,ov,iv] (setItem ov iv v)
   release [v,ov,iv] []):=by intro _;rfl):PG X (.Subscript o i pos) (zb4 to ti t):=by
 intro pins s σ H v u Q I r h;rw [ha];refine af (wpAny_holding (thn (ho pins s σ H _ I h) λ ov s1 ⟨x,H1,I1,r1,q1⟩=>?_));refine af (wpAny_holding (thn (hi pins s1 σ H1 _ I1 q1) λ iv s2 ⟨y,H2,I2,r2,q2⟩=>?_));refine af (wpAny_standAt (af (wpAny_holding (thn (hs pins s2 σ H2 x y v ov iv u _ I2 r1 r2 r q2) λ _ s3 ⟨H3,I3,q3⟩=>?_))));exact wpAny_release ⟨σ,H3,I3,q3⟩
noncomputable def jR(te:TE)(g:TG):TS:=λ D σ H=>te σ H λ x H1=>g x σ H1 D.nx
theorem zhw(he:PE X e te)(hg:PG X tg g)(hs:swapsWithSole [tg] e pos.line X.env=pure false:=by rfl)(hw:swappedStores [tg] e X.env=pure none:=by rfl)(h1:(assignEach [tg] X.env).map (·.2)=[assign tg X.env]:=by rfl):PS X (.Assign [tg] e pos) (jR te g):=by
 intro pins s σ H D I h;refine wpAny_Assign_stores (thn (he pins s σ H _ I h) λ v s1 ⟨x,H1,I1,r1,q1⟩=>?_) hs hw;rw [h1];exact thn (hg pins s1 σ H1 x v _ I1 r1 q1) λ _ s2 q=>q
theorem aI(hN:X.N.Nodup)(hi:X.N[i]?=some x)(hx:Loc X.env.scope x)(he:PE X e te)(hs:swapsWith e (some (.Name x pos')) pos.line X.env=pure false:=by rfl)(hf:X.fn x=true\/X.env.scope.names.lookup x=some .local:=by first | exact .inl rfl | exact .inr rfl | assumption):
  PS X (.Assign [.Name x pos'] e pos) (jR te (cR i)):=by
 intro pins s σ H D I h;refine wpAny_Assign_Name (thn (he pins s σ H _ I h) λ v s1 ⟨y,H1,I1,r1,q1⟩=>?_) hs;exact jP I1 hN hi hx r1 (λ s2 I2=>⟨_,H1,I2,q1⟩) hf
noncomputable def zjm(i:Nat)(te:TE)(ti:TIp):TS:=λ D σ H=>∃ x,σ[i]?=some (some x)/\te σ H λ y H1=>ti x y H1 λ z H2=>D.nx (σ.set i (some z)) H2
theorem zhx{op:Operator}{ti:TIp}(hN:X.N.Nodup)(hi:X.N[i]?=some x)(hx:Loc X.env.scope x)(he:PE X e te)(ho:PIp X op ti)(hf:X.fn x=true\/X.env.scope.names.lookup x=some .local:=by first | exact .inl rfl | exact .inr rfl | assumption):
  PS X (.AugAssign (.Name x pos') op e pos) (zjm i te ti):=by
 intro pins s σ H D I h;obtain ⟨v,e1,h⟩:=h;obtain ⟨m,hn,hl⟩:=I.loc;have vis:Vis X.env.scope x:=by rcases hx with k | k;exact .inl k;exact .inr (.inl k)
 obtain ⟨u,r,l⟩:=hl i x v hi e1 vis;refine wpAny_AugAssign_Name ?_;have go:wpAny (model X.prog X.w) X.A (eval e X.env) (λ w s₂=>wpAny (model X.prog X.w) X.A (inplaceOp op u w) (λ r s₃=>wpAny (model X.prog X.w) X.A (storeName X.env x r) (λ _=>SP X pins D .next) X.xe s₃) X.xe s₂) X.xe s:=by
  refine thn (he pins s σ H _ I h) λ w s1 ⟨y,H1,I1,r1,q1⟩=>?_;refine thn (ho pins s1 σ H1 v y u w _ I1 r r1 q1) λ z s2 ⟨zv,H2,I2,r2,q2⟩=>?_;exact jP I2 hN hi hx r2 (λ s3 I3=>⟨_,H2,I3,q2⟩) hf
 rcases l with ⟨hk,hm⟩ | ⟨hk,c,hc,hcell⟩
 ·exact wpAny_loadName_local I.ok.kind hk hn hm go
 ·rcases hk with hk | hk
  ·exact wpAny_loadName_cell I.ok.kind hk hc hcell go
  ·rcases hx with k | k
   ·have:X.env.scope.names.lookup x=some .free:=hk;rw [k] at this;cases this
   ·have:X.env.scope.names.lookup x=some .free:=hk;rw [k] at this;cases this
noncomputable def ipI(f:Int->Int->Int):TIp:=λ x y H Q=>∃ i j,x = .int i/\y = .int j/\Q (.int (f i j)) H
theorem zc8:PIp X .Add (ipI λ i j=>i+j):=by
 intro pins s σ H x y v u Q I r1 r2 h;obtain ⟨i,j,e1,e2,q⟩:=h;subst e1;subst e2;obtain ⟨t,rfl⟩:=r1;obtain ⟨t',rfl⟩:=r2;exact iadd_int ⟨.int _,H,I.tok _,⟨_,rfl⟩,q⟩
noncomputable def yz(c:TT)(tb:TS):TS:=λ D σ H=>∃ W:Nat->St->Hp->Prop,(∃ m,W m σ H)/\∀ m σ H,W m σ H->
 c σ H λ b H1=>if b=true then ∃ N:St->Hp->Prop,(∀ σ' H',N σ' H'->∃ m',m' < m/\W m' σ' H')/\tb { D with nx:=N,ct:=N,bk:=D.nx } σ H1 else D.nx σ H1
theorem zhC(hp:PassesOwn (model X.prog X.w) X.A X.env X.xe)(hc:PT X c tc)(hb:PSs X body tb):PS X (.While c body [] pos) (yz tc tb):=by
 intro pins s σ H D I h;obtain ⟨W,⟨m0,w0⟩,turn⟩:=h;refine wpAny_While (codeAny_whileLoop (λ n s'=>∃ σ' H',Inv X pins σ' H' s'/\W n σ' H') ?_ m0 ⟨σ,H,I,w0⟩);rintro n s1 ⟨σ1,H1,I1,w1⟩;refine wpAny_passesOwn hp (thn (hc pins s1 σ1 H1 _ I1 (turn n σ1 H1 w1)) λ b s2 ⟨H2,I2,q2⟩=>?_);cases b with
 | true=>
  obtain ⟨N,hN,q2⟩:=q2;rw [if_pos rfl];refine wpAny_passesOwn hp (thn (hb pins s2 σ1 H2 _ I2 q2) λ f s3 q3=>?_);cases f with
  | next=>
   obtain ⟨σ3,H3,I3,n3⟩:=q3;obtain ⟨m',hm,w3⟩:=hN σ3 H3 n3;exact ⟨m',hm,σ3,H3,I3,w3⟩
  | cont=>
   obtain ⟨σ3,H3,I3,n3⟩:=q3;obtain ⟨m',hm,w3⟩:=hN σ3 H3 n3;exact ⟨m',hm,σ3,H3,I3,w3⟩
  | brk=>exact q3
  | ret v=>exact q3
 | false=>
  rw [if_neg bz];exact wpAny_execs_nil ⟨σ1,H2,I2,q2⟩
structure It where
 go:Nat->Hp->Prop
 yld:Nat->Hp->V->Hp->Prop
 stop:Nat->Hp->Prop
variable {J:It}
noncomputable def eQ(X:Cx)(pins:List (Addr × Obj))(H:Hp)(b:Addr):Prop:=
 H b=none/\b≠X.env.locals/\b∉X.fs/\(b∈X.ex\/X.s₀.heap.objs.size<=b)/\(∀ x c,X.env.cells.lookup x=some c->c≠b)/\∀ p∈X.pn++pins,p.1≠b
theorem Inv.fpOk(I:Inv X pins σ H s)(hb:s.heap.objs.size<=b)(hn:H' b=none):eQ X pins H' b:=by
 refine ⟨hn,Nat.ne_of_gt (Nat.lt_of_lt_of_le I.lt hb),I.nofs hb,.inr (Nat.le_trans I.sz hb),λ x c e z=>?_,λ p hp z=>?_⟩
 ·obtain ⟨v,q⟩:=I.cell x c e;exact absurd (Nat.lt_of_lt_of_le q.lt (by rw [z];exact hb)) (Nat.lt_irrefl _)
 ·exact absurd (Nat.lt_of_lt_of_le (Heap.lt_size (I.pin p hp).1) (by rw [z];exact hb)) (Nat.lt_irrefl _)
structure fO (P:Program) (w:World) (K:W.Frag) (tg:Expr) (J:It) (fp:List Addr) (it:Addr) (tn:Nat->Heap->Prop):Prop where
 mem:it∈fp
 obj:∀ i h,tn i h->∀ b∈fp,∃ o,h.get? b=some o/\∀ v,o.data≠.cell v
 keep:∀ i h h',tn i h->(∀ b∈fp,∀ o,h.get? b=some o->h'.get? b=some o)->tn i h'
 item:∀ (X:Cx),X.prog=P->X.w=w->X.K=K->X.calm=true->∀ (i:Nat) (pins:List (Addr × Obj)) (s:Shared) (σ:St) (H:Hp) (E:Value->Shared->Prop),Inv X pins σ H s->(∀ b∈fp,eQ X pins H b)->tn i s.heap->J.go i H->
  wpAny (model P w) X.A (pyNext (.ref it)) (λ r s1=>∃ u,r=some u/\
   wpAny (model P w) X.A (letOwnedTupleGo tg (.ref it) u) (λ _ s2=>∃ x H',Inv X pins σ H' s2/\RelV x u/\J.yld i H x H'/\tn (i+1) s2.heap/\∀ b∈fp,H' b=none) E s1) E s
 done:∀ (X:Cx),X.prog=P->X.w=w->X.K=K->X.calm=true->∀ (i:Nat) (pins:List (Addr × Obj)) (s:Shared) (σ:St) (H:Hp) (E:Value->Shared->Prop),Inv X pins σ H s->(∀ b∈fp,eQ X pins H b)->tn i s.heap->J.stop i H->
  wpAny (model P w) X.A (pyNext (.ref it)) (λ r s1=>r=none/\Inv X pins σ H s1) E s
 self:∀ (A:Around) (i:Nat) (s:Shared) (Q:Value->Shared->Prop) (E:Value->Shared->Prop),tn i s.heap->Q (.ref it) s->wpAny (model P w) A (pyIter (.ref it)) Q E s
noncomputable abbrev TI:=St->Hp->(It->Hp->Prop)->Prop
variable {wi:TI}
noncomputable def PIE(X:Cx)(pins:List (Addr × Obj))(σ:St)(tg:Expr)(R:It->Hp->Prop)(itv:Value)(s2:Shared):Prop:=
 ∃ (it:Addr) (fp:List Addr) (tn:Nat->Heap->Prop) (J:It) (H':Hp),itv = .ref it/\Inv X pins σ H' s2/\fO X.prog X.w X.K tg J fp it tn/\tn 0 s2.heap/\(∀ b∈fp,eQ X pins H' b)/\R J H'
noncomputable def PI(X:Cx)(tg iter:Expr)(wi:TI):Prop:=
 ∀ (pins:List (Addr × Obj)) (s:Shared) (σ:St) (H:Hp) (R:It->Hp->Prop),Inv X pins σ H s->wi σ H R->
  wpAny (model X.prog X.w) X.A (eval iter X.env) (λ v s1=>wpAny (model X.prog X.w) X.A (pyIter v) (PIE X pins σ tg R) X.xe s1) X.xe s
theorem jn{o:Obj}{n:String}{vs:Array Value}{Q:Unit->Shared->Prop}(ho:s.heap.get? it=some o)(hc:o.cls = .type n)(hd:o.data = .fields vs)(hn:["enumerate", "zip", "dict_itemiterator", "dict_reverseitemiterator", "odict_iterator", "itertools.zip_longest", "itertools.pairwise"].contains n=false)(hQ:Q () s):wpAny M A (letOwnedTupleGo tg (.ref it) u) Q E s:=by
  unfold letOwnedTupleGo;cases tg <;> first
    | exact aG hQ
    | (cases u <;> first
        | exact aG hQ
        | (refine af (wpAny_load ho ?_)
           rw [hc,hd];show wpAny M A (if (["enumerate", "zip", "dict_itemiterator", "dict_reverseitemiterator", "odict_iterator", "itertools.zip_longest", "itertools.pairwise"].contains n && vs[0]? == some (rawInt _))=true then _ else _) Q E s;rw [if_neg (by intro h;rw [hn,Bool.false_and] at h;cases h)];exact aG hQ))
noncomputable def Itl(K:W.Frag)(a:Addr):It:=
 ⟨λ i H=>∃ xs x,SqL K H a xs/\xs[i]?=some x,λ i H x H'=>H'=H/\∀ xs,SqL K H a xs->xs[i]?=some x,λ i H=>∃ xs,SqL K H a xs/\xs.length<=i⟩
noncomputable def Itr(lo:Int)(n:Nat):It:=⟨λ i _=>i < n,λ i H x H'=>H'=H/\x = .int (lo+i),λ i _=>n<=i⟩
theorem zjT(a it:Addr):fO P w K tg (Itl K a) [it] it (λ i h=>h.IsListIter it a i) where
 mem:=by simp
 obj:=λ i h st b hb=>by
  have e:b=it:=by simpa using hb
  subst e;obtain ⟨o,e,c,d⟩:=st;exact ⟨o,e,λ v z=>by rw [d] at z;cases z⟩
 keep:=λ i h h' st k=>st.at λ o e=>k it (by simp) o e
 item:=by
  intro X hP hw hK hc i pins s σ H E I hf st hg;subst hP hw hK;obtain ⟨xs,x,hq,hx⟩:=hg;obtain ⟨its,rv,p,hz⟩:=I.list hq;obtain ⟨u,hu,ru⟩:=rv.get hx;obtain ⟨f0,f1,f2,f3,f4,f5⟩:=hf it (by simp);refine wpAny_pyNext_list_item st p.isList (x:=u) (by simpa using hu) λ h' st' sb=>?_;have I1:Inv X pins σ H { s with heap:=h' }:=I.turned (t':=s.toks) (λ b o hb e=>(sb.2 b hb).trans e) f0 f1 f3 f4 f5;obtain ⟨o,e,c,d⟩:=id st';exact ⟨u,rfl,jn (s:={ s with heap:=h' }) e c d (by decide) ⟨x,H,I1,ru,⟨rfl,λ ys hy=>by rw [I.list_inj hy hq];exact hx⟩,st',λ b hb=>(hf b hb).1⟩⟩
 done:=by
  intro X hP hw hK hc i pins s σ H E I hf st hg;subst hP hw hK;obtain ⟨xs,hq,hx⟩:=hg;obtain ⟨its,rv,p,hz⟩:=I.list hq;obtain ⟨f0,f1,f2,f3,f4,f5⟩:=hf it (by simp);have hl:=rv.length;exact wpAny_pyNext_list_end (I.ok.hd hc) st p.isList (by simp;omega) λ h' eb=>⟨rfl,I.turned (t':=s.toks) (λ b o hb e=>eb b o hb e) f0 f1 f3 f4 f5⟩
 self:=λ _ _ _ _ _ st h=>wpAny_pyIter_listiter st h
theorem zjU(it:Addr)(lo:Int)(n:Nat):fO P w K tg (Itr lo n) [it] it (λ i h=>IsRangeIter h it (lo+(i:Nat) * 1) ((n:Int) - (i:Nat)) 1) where
 mem:=by simp
 obj:=λ i h st b hb=>by
  have e:b=it:=by simpa using hb
  subst e;exact ⟨_,st,λ v z=>by
   have z':Data.fields _=Data.cell v:=z;cases z'⟩
 keep:=λ i h h' st k=>k it (by simp) _ st
 item:=by
  intro X hP hw hK hc i pins s σ H E I hf st hg;subst hP hw hK;obtain ⟨f0,f1,f2,f3,f4,f5⟩:=hf it (by simp);have W:=Walks.range (prog:=X.prog) (w:=X.w) (I.ok.hd hc) it lo 1 n;refine W.item i s _ _ hg st λ v h' tk hv st' kk=>?_;obtain ⟨t,rfl⟩:=hv;have I1:Inv X pins σ H { s with heap:=h',toks:=tk }:=I.turned (λ b o hb e=>kk b o (by simpa using hb) e) f0 f1 f3 f4 f5;refine ⟨_,rfl,jn (s:={ s with heap:=h',toks:=tk }) (n := "range_iterator") st' rfl rfl (by decide) ⟨.int (lo+i),H,I1,⟨t,?_⟩,⟨rfl,rfl⟩,st',λ b hb=>(hf b hb).1⟩⟩;rw [Int.mul_one]
 done:=by
  intro X hP hw hK hc i pins s σ H E I hf st hg;subst hP hw hK;obtain ⟨f0,f1,f2,f3,f4,f5⟩:=hf it (by simp);exact wpAny_pyNext_range_end (I.ok.hd hc) st (by have:n<=i:=hg;omega) λ h' eb=>⟨rfl,I.turned (t':=s.toks) (λ b o hb e=>eb b o hb e) f0 f1 f3 f4 f5⟩
 self:=λ _ _ _ _ _ st h=>wpAny_pyIter_rangeiter st h
noncomputable def zcC(K:W.Frag)(tl:TE):TI:=λ σ H R=>tl σ H λ x H1=>∃ a,x = .ref a/\(∃ xs,SqL K H1 a xs)/\R (Itl K a) H1
theorem cH{l:Expr}(hl:PE X l tl):PI X tg l (zcC X.K tl):=by
 intro pins s σ H R I h;refine thn (hl pins s σ H _ I h) λ v s1 ⟨x,H1,I1,r1,q1⟩=>?_;obtain ⟨a,e,⟨xs,hq⟩,q⟩:=q1;subst e;cases r1;obtain ⟨its,rv,p,hz⟩:=I1.list hq;refine wpAny_pyIter_list p.isList ?_;refine ⟨s1.heap.objs.size,[s1.heap.objs.size],_,_,H1,rfl,I1.kept (t':=s1.toks) λ b o e=>aY _ e,zjT a _,⟨_,Heap.get?_push_size _ rfl,rfl,rfl⟩,λ b hb=>?_,q⟩;have e:b=s1.heap.objs.size:=by simpa using hb
 subst e;exact I1.fpOk (Nat.le_refl _) (I1.hok.fresh (Nat.le_refl _))
theorem wY{R:It->Hp->Prop}{t u v:Tok}(I:Inv X pins σ H s)(h1 : -(2 ^ 62)<=lo)(h2:lo < 2 ^ 62)(h3 : -(2 ^ 62)<=hi)(h4:hi < 2 ^ 62)(q:R (Itr lo (hi - lo).toNat) H):wpAny (model X.prog X.w) X.A (pyIter (.ref s.heap.objs.size)) (PIE X pins σ tg R) E { s with heap:=s.heap.push { cls:=.type "range", data:=.fields #[.int lo t,.int hi u,.int 1 v] },toks:=tk }:=by
 refine wpAny_pyIter_range (IsRange.new ..) (small_one h1 h2 h3 h4) ?_;have I1:Inv X pins σ H { s with heap:=s.heap.push { cls:=.type "range", data:=.fields #[.int lo t,.int hi u,.int 1 v] },toks:=tk }:=I.kept λ b o e=>aY _ e;refine ⟨(s.heap.push { cls:=.type "range", data:=.fields #[.int lo t,.int hi u,.int 1 v] }).objs.size,[(s.heap.push { cls:=.type "range", data:=.fields #[.int lo t,.int hi u,.int 1 v] }).objs.size],_,_,H,rfl,
  I1.kept (t':=tk) λ b o e=>aY _ e,zjU _ lo (hi - lo).toNat,?_,λ b hb=>?_,q⟩
 ·have e1:lo+((0:Nat):Int) * 1=lo:=by simp
  have e2:(((hi - lo).toNat:Nat):Int) - ((0:Nat):Int)=Builtin.Range.rangeSize lo hi 1:=by rw [rangeSize_one];split <;> omega
  show IsRangeIter _ _ (lo+((0:Nat):Int) * 1) ((((hi - lo).toNat:Nat):Int) - ((0:Nat):Int)) 1;rw [e1,e2];exact Heap.get?_push_size _ rfl
 ·have e:b=(s.heap.push { cls:=.type "range", data:=.fields #[.int lo t,.int hi u,.int 1 v] }).objs.size:=by simpa using hb
  subst e;exact I1.fpOk (Nat.le_refl _) (I1.hok.fresh (Nat.le_refl _))
noncomputable def zcT(ta:TA):TI:=λ σ H R=>ta σ H λ vs H1=>∃ j:Int,vs=[.int j]/\-(2 ^ 62)<=j/\j < 2 ^ 62/\R (Itr 0 j.toNat) H1
noncomputable def zcU(ta:TA):TI:=λ σ H R=>ta σ H λ vs H1=>∃ i j:Int,vs=[.int i,.int j]/\(-(2 ^ 62)<=i/\i < 2 ^ 62/\-(2 ^ 62)<=j/\j < 2 ^ 62)/\R (Itr i (j - i).toNat) H1
theorem eG{a:Expr}{ta:TA}(hg:Gl X "range")(hm:X.mg "range" = none)(ha:PA X [a] ta)(hs:starEach [a] X.env=[(false,eval a X.env)]:=by rfl):PI X tg (.Call (.Name "range" p) [a] [] pos) (zcT ta):=by
 intro pins s σ H R I h;refine Call_ (fb I hg hm boot_range (PyProof.Rows.callWith_type1 (thn (ha pos pins s σ H _ I h) λ us s1 ⟨vs,H1,I1,r1,q1⟩=>?_) hs rfl));obtain ⟨j,e,q1,q2,q⟩:=q1;subst e;cases r1 with
 | cons r rr=>
  cases rr;obtain ⟨t,rfl⟩:=r;exact call_range_1 (wY I1 (by omega) (by omega) q1 q2 (by simpa using q))
theorem wC{a b:Expr}{ta:TA}(hg:Gl X "range")(hm:X.mg "range" = none)(ha:PA X [a,b] ta)(hs:starEach [a,b] X.env=[(false,eval a X.env),(false,eval b X.env)]:=by rfl)(hs2:starEach [b] X.env=[(false,eval b X.env)]:=by rfl):
  PI X tg (.Call (.Name "range" p) [a,b] [] pos) (zcU ta):=by
 intro pins s σ H R I h;refine Call_ (fb I hg hm boot_range (PyProof.Rows.callWith_type1 (thn (ha pos pins s σ H _ I h) λ us s1 ⟨vs,H1,I1,r1,q1⟩=>?_) (by rw [hs,hs2]) (by rw [hs2];rfl)));obtain ⟨i,j,e,⟨q1,q2,q3,q4⟩,q⟩:=q1;subst e;cases r1 with
 | cons r rr=>
  cases rr with
  | cons r' rr=>
   cases rr;obtain ⟨t,rfl⟩:=r;obtain ⟨t',rfl⟩:=r';exact call_range_2 (wY I1 q1 q2 q3 q4 q)
noncomputable def zju(wi:TI)(g:TG)(tb:TS):TS:=λ D σ H=>wi σ H λ J H1=>∃ W:Nat->Nat->St->Hp->Prop,(∃ m,W 0 m σ H1)/\∀ i m σ H,W i m σ H->
 (J.stop i H/\D.nx σ H)\/(J.go i H/\∃ N:St->Hp->Prop,(∀ σ' H',N σ' H'->∃ m',m' < m/\W (i+1) m' σ' H')/\∀ x H',J.yld i H x H'->g x σ H' λ σ2 H2=>tb { D with nx:=N,ct:=N,bk:=D.nx } σ2 H2)
noncomputable def jz(fp:List Addr)(h:Heap):List (Addr × Obj):=fp.filterMap λ b=>(h.get? b).map λ o=>(b,o)
theorem kE{o:Obj}(hb:b∈fp)(e:h.get? b=some o):(b,o)∈jz fp h:=List.mem_filterMap.mpr ⟨b,hb,by rw [e];rfl⟩
theorem zfz{p:Addr × Obj}(hp:p∈jz fp h):p.1∈fp/\h.get? p.1=some p.2:=by
 obtain ⟨b,hb,e⟩:=List.mem_filterMap.mp hp;cases q:h.get? b with
 | none=>rw [q] at e;cases e
 | some o=>
  rw [q] at e;have e':(b,o)=p:=Option.some.inj e;subst e';exact ⟨hb,q⟩
theorem Inv.pinned(I:Inv X pins σ H s)(hf:∀ b∈fp,eQ X pins H b)(ho:∀ b∈fp,∃ o,s.heap.get? b=some o/\∀ v,o.data≠.cell v):Inv X (pins++jz fp s.heap) σ H s:=
 I.pins_of λ p hp=>(al_mp.mp hp).elim (λ z=>I.pin p (List.mem_append_right _ z)) λ z=>by
  obtain ⟨hb,e⟩:=zfz z;obtain ⟨f0,f1,f2,_⟩:=hf p.1 hb;obtain ⟨o,e',d⟩:=ho p.1 hb;rw [e] at e';cases e';exact ⟨e,f0,f1,f2,d⟩
theorem Inv.unpinned{pl:List (Addr × Obj)}(I:Inv X (pins++pl) σ H s):Inv X pins σ H s:=I.pins_of λ p hp=>I.pin p (List.mem_append_right _ (List.mem_append_left _ hp))
theorem wK(hp:PassesOwn (model X.prog X.w) X.A X.env X.xe)(hc:X.calm=true)(hi:PI X tg iter wi)(hg:PG X tg g)(hb:PSs X body tb)(hs:∀ x,foldedSetIterable iter X.env x=pure x:=by intro _;rfl):PS X (.For tg iter body [] pos) (zju wi g tb):=by
 intro pins s σ H D I h;refine wpAny_For (thn (hi pins s σ H _ I h) λ v s1 h1=>thn h1 λ itv s2 h2=>?_) hs;obtain ⟨it,fp,tn,J,H2,e,I2,T,st2,f2,W,⟨m0,w0⟩,turn⟩:=h2;subst e
 -- what stays true of the iterator's objects through the loop
 have stat:∀ {H':Hp},(∀ b∈fp,H' b=none)->∀ b∈fp,eQ X pins H' b:=λ hn b hb=>⟨hn b hb,(f2 b hb).2⟩
 refine codeAny_forLoop_any (λ n s'=>∃ i σ' H',Inv X pins σ' H' s'/\tn i s'.heap/\(∀ b∈fp,H' b=none)/\W i n σ' H') ?_ m0 ⟨0,σ,H2,I2,st2,λ b hb=>(f2 b hb).1,w0⟩;rintro n s3 ⟨i,σ3,H3,I3,st3,fr3,w3⟩;rcases turn i n σ3 H3 w3 with ⟨stop,qn⟩ | ⟨go,N,hN,step⟩
 ·refine wpAny_passesOwn hp (thn (T.done X rfl rfl rfl hc i pins s3 σ3 H3 X.xe I3 (stat fr3) st3 stop) λ r s4 ⟨hr,I4⟩=>?_);subst hr;exact wpAny_execs_nil ⟨σ3,H3,I4,qn⟩
 ·refine wpAny_passesOwn hp (thn (T.item X rfl rfl rfl hc i pins s3 σ3 H3 X.xe I3 (stat fr3) st3 go) λ r s4 ⟨u,hr,h4⟩=>?_);subst hr;refine wpAny_passesOwn hp (thn h4 λ _ s5 ⟨x,H5,I5,r5,y5,st5,fr5⟩=>?_);have I5':=I5.pinned (stat fr5) (T.obj _ _ st5);refine wpAny_passesOwn hp (thn (hg _ s5 σ3 H5 x u _ I5' r5 (step x H5 y5)) λ _ s6 ⟨σ6,H6,I6,q6⟩=>?_);refine wpAny_passesOwn hp (thn (hb _ s6 σ6 H6 _ I6 q6) λ f s7 q7=>?_);have again:∀ {σ7:St} {H7:Hp},Inv X (pins++jz fp s5.heap) σ7 H7 s7->N σ7 H7->∃ m,m < n/\∃ i σ' H',Inv X pins σ' H' s7/\tn i s7.heap/\(∀ b∈fp,H' b=none)/\W i m σ' H':=λ {σ7 H7} I7 n7=>by
   obtain ⟨m',hm,w7⟩:=hN σ7 H7 n7;refine ⟨m',hm,i+1,σ7,H7,I7.unpinned,T.keep _ _ _ st5 λ b hb o e=>(I7.pin (b,o) (List.mem_append_right _ (List.mem_append_right _ (kE hb e)))).1,λ b hb=>?_,w7⟩;obtain ⟨o,e,d⟩:=T.obj _ _ st5 b hb;exact (I7.pin (b,o) (List.mem_append_right _ (List.mem_append_right _ (kE hb e)))).2.1
  cases f with
  | next=>obtain ⟨σ7,H7,I7,n7⟩:=q7;exact again I7 n7
  | cont=>obtain ⟨σ7,H7,I7,n7⟩:=q7;exact again I7 n7
  | brk=>obtain ⟨σ7,H7,I7,q7⟩:=q7;exact ⟨σ7,H7,I7.unpinned,q7⟩
  | ret v=>obtain ⟨x7,σ7,H7,I7,r7,q7⟩:=q7;exact ⟨x7,σ7,H7,I7.unpinned,r7,q7⟩
theorem iM{xs:List V}(Pv:Nat->St->Hp->Prop)(h0:Pv 0 σ H)(hl:∀ i σ H,i<=xs.length->Pv i σ H->SqL K H a xs)(hs:∀ i x σ H,xs[i]?=some x->Pv i σ H->g x σ H λ σ2 H2=>tb { D with nx:=Pv (i+1),ct:=Pv (i+1),bk:=D.nx } σ2 H2)(hd:∀ σ H,Pv xs.length σ H->D.nx σ H):
  ∃ W:Nat->Nat->St->Hp->Prop,(∃ m,W 0 m σ H)/\∀ i m σ H,W i m σ H->
   ((Itl K a).stop i H/\D.nx σ H)\/((Itl K a).go i H/\∃ N:St->Hp->Prop,(∀ σ' H',N σ' H'->∃ m',m' < m/\W (i+1) m' σ' H')/\∀ x H',(Itl K a).yld i H x H'->g x σ H' λ σ2 H2=>tb { D with nx:=N,ct:=N,bk:=D.nx } σ2 H2):=by
 refine ⟨λ i m σ H=>m=xs.length - i/\i<=xs.length/\Pv i σ H,⟨xs.length,by simp,Nat.zero_le _,h0⟩,?_⟩;rintro i m σ H ⟨rfl,hi,p⟩;have q:=hl i σ H hi p;by_cases hlt:i < xs.length
 ·refine .inr ⟨⟨xs,xs[i],q,by simp [hlt]⟩,Pv (i+1),λ σ' H' p'=>⟨xs.length - (i+1),by omega,rfl,hlt,p'⟩,λ x H' y=>?_⟩;obtain ⟨e,y⟩:=y;subst e;exact hs i x σ _ (y xs q) p
 ·have e:i=xs.length:=by omega
  subst e;exact .inl ⟨⟨xs,q,Nat.le_refl _⟩,hd σ H p⟩
theorem gw(Pv:Nat->St->Hp->Prop)(h0:Pv 0 σ H)(hs:∀ i σ H,i < n->Pv i σ H->g (.int (lo+i)) σ H λ σ2 H2=>tb { D with nx:=Pv (i+1),ct:=Pv (i+1),bk:=D.nx } σ2 H2)(hd:∀ σ H,Pv n σ H->D.nx σ H):
  ∃ W:Nat->Nat->St->Hp->Prop,(∃ m,W 0 m σ H)/\∀ i m σ H,W i m σ H->
   ((Itr lo n).stop i H/\D.nx σ H)\/((Itr lo n).go i H/\∃ N:St->Hp->Prop,(∀ σ' H',N σ' H'->∃ m',m' < m/\W (i+1) m' σ' H')/\∀ x H',(Itr lo n).yld i H x H'->g x σ H' λ σ2 H2=>tb { D with nx:=N,ct:=N,bk:=D.nx } σ2 H2):=by
 refine ⟨λ i m σ H=>m=n - i/\i<=n/\Pv i σ H,⟨n,by simp,Nat.zero_le _,h0⟩,?_⟩;rintro i m σ H ⟨rfl,hi,p⟩;by_cases hlt:i < n
 ·refine .inr ⟨hlt,Pv (i+1),λ σ' H' p'=>⟨n - (i+1),by omega,rfl,hlt,p'⟩,λ x H' y=>?_⟩;obtain ⟨e,y⟩:=y;subst e y;exact hs i σ _ hlt p
 ·have e:i=n:=by omega
  subst e;exact .inl ⟨Nat.le_refl _,hd σ H p⟩
noncomputable abbrev R2:=V->V->Hp->VK->Prop
variable {r':R2}
noncomputable def OpR(X:Cx)(f:Value->Value->Sem Value)(r:R2):Prop:=
 ∀ (pins:List (Addr × Obj)) (s:Shared) (σ:St) (H:Hp) (x y:V) (v u:Value) (Q:VK),Inv X pins σ H s->RelV x v->RelV y u->r x y H Q->
  wpAny (model X.prog X.w) X.A (f v u) (EP X pins σ Q) X.xe s
noncomputable def UnR(X:Cx)(f:Value->Sem Value)(r:V->Hp->VK->Prop):Prop:=
 ∀ (pins:List (Addr × Obj)) (s:Shared) (σ:St) (H:Hp) (x:V) (v:Value) (Q:VK),Inv X pins σ H s->RelV x v->r x H Q->
  wpAny (model X.prog X.w) X.A (f v) (EP X pins σ Q) X.xe s
noncomputable def CallR(X:Cx)(f:Value)(r:List V->Hp->VK->Prop):Prop:=
 ∀ (pins:List (Addr × Obj)) (s:Shared) (σ:St) (H:Hp) (xs:List V) (us:List Value) (Q:VK),Inv X pins σ H s->Vals xs us->r xs H Q->
  wpAny (model X.prog X.w) X.A (call f us) (EP X pins σ Q) X.xe s
noncomputable def zaa(X:Cx)(r:V->Hp->(Bool->Hp->Prop)->Prop):Prop:=
 ∀ (pins:List (Addr × Obj)) (s:Shared) (σ:St) (H:Hp) (x:V) (v:Value) (Q:Bool->Hp->Prop),Inv X pins σ H s->RelV x v->r x H Q->
  wpAny (model X.prog X.w) X.A (truthy v) (TP X pins σ Q) X.xe s
noncomputable def tOp(r:R2)(ta tb:TE):TE:=λ σ H Q=>ta σ H λ x H1=>tb σ H1 λ y H2=>r x y H2 Q
noncomputable def tUn(r:V->Hp->VK->Prop)(ta:TE):TE:=λ σ H Q=>ta σ H λ x H1=>r x H1 Q
noncomputable def rI(C:Int->Int->Prop)(g:Int->Int->V):R2:=λ x y H Q=>∃ i j,x = .int i/\y = .int j/\C i j/\Q (g i j) H
noncomputable def rI0(g:Int->Int->V):R2:=λ x y H Q=>∃ i j,x = .int i/\y = .int j/\Q (g i j) H
noncomputable def rU(g:Int->V):V->Hp->VK->Prop:=λ x H Q=>∃ i,x = .int i/\Q (g i) H
section
variable {a b:Expr} {tb tc:TE}
theorem mT(ha:PE X a ta)(hb:PE X b tb){R:V->V->Hp->Prop}(I:Inv X pins σ H s)(h:ta σ H λ x H1=>tb σ H1 λ y H2=>R x y H2)(hf:∀ v u s2 x y H2,Inv X pins σ H2 s2->RelV x v->RelV y u->R x y H2->wpAny (model X.prog X.w) X.A (f v u) Q X.xe s2):
  wpAny (model X.prog X.w) X.A (eval a X.env) (λ v s₁=>wpAny (model X.prog X.w) X.A (eval b X.env) (λ u s₂=>wpAny (model X.prog X.w) X.A (f v u) Q X.xe s₂) X.xe s₁) X.xe s:=by
 refine thn (ha pins s σ H _ I h) λ v s1 ⟨x,H1,I1,r1,q1⟩=>?_;refine thn (hb pins s1 σ H1 _ I1 q1) λ u s2 ⟨y,H2,I2,r2,q2⟩=>?_;exact hf v u s2 x y H2 I2 r1 r2 q2
theorem au{op:Operator}{r:R2}(ho:OpR X (binaryOp op) r)(ha:PE X a ta)(hb:PE X b tb):PE X (.BinOp a op b pos) (tOp r ta tb):=by
 intro pins s σ H Q I h;exact wpAny_BinOp (mT ha hb I h λ v u s2 x y H2 I2 rx ry q=>ho pins s2 σ H2 x y v u Q I2 rx ry q)
theorem dZ{op:UnaryOp}{r:V->Hp->VK->Prop}(ho:UnR X (unaryOp op) r)(ha:PE X a ta):PE X (.UnaryOp op a pos) (tUn r ta):=by
 intro pins s σ H Q I h;exact UnaryOp_ (thn (ha pins s σ H _ I h) λ v s1 ⟨x,H1,I1,r1,q1⟩=>ho pins s1 σ H1 x v Q I1 r1 q1)
theorem opI{C:Int->Int->Prop}{g:Int->Int->Int}(rule:∀ (i j:Int) (t u:Tok) (s:Shared) (Q:Value->Shared->Prop) (E:Value->Shared->Prop),C i j->Q (.int (g i j) s.toks) { s with toks:=s.toks+1 }->wpAny (model X.prog X.w) X.A (f (.int i t) (.int j u)) Q E s):
  OpR X f (rI C λ i j=>.int (g i j)):=by
 intro pins s σ H x y v u Q I rx ry h;obtain ⟨i,j,rfl,rfl,hc,q⟩:=h;obtain ⟨t,rfl⟩:=rx;obtain ⟨t',rfl⟩:=ry;exact rule i j t t' s _ _ hc ⟨.int (g i j),H,I.tok _,⟨_,rfl⟩,q⟩
theorem ox{g:Int->Int->Int}(rule:∀ (i j:Int) (t u:Tok) (s:Shared) (Q:Value->Shared->Prop) (E:Value->Shared->Prop),Q (.int (g i j) s.toks) { s with toks:=s.toks+1 }->wpAny (model X.prog X.w) X.A (f (.int i t) (.int j u)) Q E s):
  OpR X f (rI0 λ i j=>.int (g i j)):=by
 intro pins s σ H x y v u Q I rx ry h;obtain ⟨i,j,rfl,rfl,q⟩:=h;obtain ⟨t,rfl⟩:=rx;obtain ⟨t',rfl⟩:=ry;exact rule i j t t' s _ _ ⟨.int (g i j),H,I.tok _,⟨_,rfl⟩,q⟩
theorem kQ{g:Int->Int->Bool}(rule:∀ (i j:Int) (t u:Tok) (s:Shared) (Q:Value->Shared->Prop) (E:Value->Shared->Prop),Q (.bool (g i j)) s->wpAny (model X.prog X.w) X.A (f (.int i t) (.int j u)) Q E s):
  OpR X f (rI0 λ i j=>.bl (g i j)):=by
 intro pins s σ H x y v u Q I rx ry h;obtain ⟨i,j,rfl,rfl,q⟩:=h;obtain ⟨t,rfl⟩:=rx;obtain ⟨t',rfl⟩:=ry;exact rule i j t t' s _ _ ⟨.bl (g i j),H,I,rfl,q⟩
noncomputable def yP(i j:Int):Prop:=0 < j/\j < 1073741824
noncomputable def CMul(i j:Int):Prop:=(-(2 ^ 64) < i/\i < 2 ^ 64)\/(-(2 ^ 64) < j/\j < 2 ^ 64)
theorem CMul.ok{i j:Int}(h:CMul i j):IntMulOk i j:=by
 rcases h with ⟨h1,h2⟩ | ⟨h1,h2⟩
 ·exact .of_left (intBits_le_64 h1 h2)
 ·exact .of_right (intBits_le_64 h1 h2)
theorem zjZ(k:Nat):(0:Int)<=2 ^ k:=by
 rw [two_pow_cast];exact Int.natCast_nonneg _
theorem bv:OpR X (binaryOp .Add) (rI0 λ i j=>.int (i+j)):=ox λ _ _ _ _ _ _ _ q=>add_int q
theorem cF:OpR X (binaryOp .Sub) (rI0 λ i j=>.int (i - j)):=ox λ _ _ _ _ _ _ _ q=>sub_int q
theorem e7:OpR X (binaryOp .Mult) (rI CMul λ i j=>.int (i * j)):=opI λ _ _ _ _ _ _ _ hc q=>mul_int q hc.ok
theorem fE:OpR X (binaryOp .FloorDiv) (rI yP λ i j=>.int (i / j)):=opI λ i j _ _ _ _ _ hc q=>by
 have h1:(0:Int) < j:=hc.1;have h2:j < 1073741824:=hc.2;exact floordiv_int (by omega) (by rw [Int.fdiv_eq_ediv_of_nonneg i (by omega)];exact q) (.inl (PyProof.noPylong_small (by omega)))
theorem cE:OpR X (binaryOp .Mod) (rI (λ _ j=>0 < j) λ i j=>.int (i % j)):=opI λ i j _ _ _ _ _ hc q=>by
 have h1:(0:Int) < j:=hc;exact mod_int' (by omega) (by rw [Int.fmod_eq_emod_of_nonneg i (by omega)];exact q)
theorem zg9:OpR X (binaryOp .RShift) (rI (λ _ j=>0<=j) λ i j=>.int (i / 2 ^ j.toNat)):=opI λ i j _ _ _ _ _ hc q=>
 rshift_int hc (by rw [Int.fdiv_eq_ediv_of_nonneg i (zjZ _)];exact q)
theorem zg6:OpR X (binaryOp .BitAnd) (rI0 λ i j=>.int (Builtin.bitAnd i j)):=ox λ _ _ _ _ _ _ _ q=>and_int q
theorem unI{f:Value->Sem Value}{g:Int->Int}(rule:∀ (i:Int) (t:Tok) (s:Shared) (Q:Value->Shared->Prop) (E:Value->Shared->Prop),Q (.int (g i) s.toks) { s with toks:=s.toks+1 }->wpAny (model X.prog X.w) X.A (f (.int i t)) Q E s):
  UnR X f (rU λ i=>.int (g i)):=by
 intro pins s σ H x v Q I rx h;obtain ⟨i,rfl,q⟩:=h;obtain ⟨t,rfl⟩:=rx;exact rule i t s _ _ ⟨.int (g i),H,I.tok _,⟨_,rfl⟩,q⟩
theorem d5:UnR X (unaryOp .USub) (rU λ i=>.int (-i)):=unI λ _ _ _ _ _ q=>neg_int q
end
noncomputable def qT:V->V->Bool
 | .non,.non=>true | .non,.int _=>true | .int _,.non=>true | .non,.bl _=>true | .bl _,.non=>true | .non,.str _=>true | .str _,.non=>true
 | .int _,.int _=>true | .bl _,.bl _=>true | .str _,.str _=>true | .byt _,.byt _=>true
 | .int _,.str _=>true | .str _,.int _=>true | .bl _,.str _=>true | .str _,.bl _=>true
 | _,_=>false
noncomputable def rEq:R2:=λ x y H Q=>qT x y=true/\Q (.bl (decide (x=y))) H
noncomputable def rNe:R2:=λ x y H Q=>qT x y=true/\Q (.bl (!decide (x=y))) H
theorem dec_int{i j:Int}:decide (V.int i=V.int j)=(i == j):=by
 rw [Bool.eq_iff_iff];simp
theorem uo{i j:Bool}:decide (V.bl i=V.bl j)=(i == j):=by
 rw [Bool.eq_iff_iff];simp
theorem ur{i j:Str}:decide (V.str i=V.str j)=(i == j):=by
 rw [Bool.eq_iff_iff];simp
theorem uq{i j:Array UInt8}:decide (V.byt i=V.byt j)=(i.toList == j.toList):=by
 rw [Bool.eq_iff_iff];cases i;cases j;simp
section
variable {a b:Expr} {tb tc:TE}
theorem bF{Q:VK}{k k':Bool}(I:Inv X pins σ H s)(q:Q (.bl k) H)(e:k=k'):EP X pins σ Q (.bool k') s:=by
 subst e;exact ⟨.bl k,H,I,rfl,q⟩
theorem c6:OpR X (compareOp .Eq) rEq:=by
 intro pins s σ H x y v u Q I rx ry h;obtain ⟨hs,q⟩:=h;cases x with
 | non=>
  cases rx;cases y with
  | non=>cases ry;exact PySem.EqNone.eq_none_none (bF I q (by simp))
  | bl j=>cases ry;exact PySem.EqNone.eq_none_bool (bF I q (by simp))
  | int j=>obtain ⟨t',rfl⟩:=ry;exact PySem.EqNone.eq_none_int (bF I q (by simp))
  | str j=>obtain ⟨t',rfl⟩:=ry;exact PySem.EqNone.eq_none_str (bF I q (by simp))
  | _=>exact absurd (show false=true from hs) bz
 | bl i=>
  cases rx;cases y with
  | non=>cases ry;exact PySem.EqNone.eq_bool_none (bF I q (by simp))
  | bl j=>cases ry;exact eq_bool (bF I q uo)
  | str j=>obtain ⟨t',rfl⟩:=ry;exact PySem.EqMixed.eq_bool_str (bF I q (by simp))
  | _=>exact absurd (show false=true from hs) bz
 | int i=>
  obtain ⟨t,rfl⟩:=rx;cases y with
  | non=>cases ry;exact PySem.EqNone.eq_int_none (bF I q (by simp))
  | int j=>obtain ⟨t',rfl⟩:=ry;exact eq_int (bF I q dec_int)
  | str j=>obtain ⟨t',rfl⟩:=ry;exact PySem.EqMixed.eq_int_str (bF I q (by simp))
  | _=>exact absurd (show false=true from hs) bz
 | str i=>
  obtain ⟨t,rfl⟩:=rx;cases y with
  | non=>cases ry;exact PySem.EqNone.eq_str_none (bF I q (by simp))
  | bl j=>cases ry;exact PySem.EqMixed.eq_str_bool (bF I q (by simp))
  | int j=>obtain ⟨t',rfl⟩:=ry;exact PySem.EqMixed.eq_str_int (bF I q (by simp))
  | str j=>obtain ⟨t',rfl⟩:=ry;exact eq_str (bF I q ur)
  | _=>exact absurd (show false=true from hs) bz
 | byt i=>
  obtain ⟨t,rfl⟩:=rx;cases y with
  | byt j=>obtain ⟨t',rfl⟩:=ry;exact W.eq_bytes (bF I q uq)
  | _=>exact absurd (show false=true from hs) bz
 | _=>cases y <;> exact absurd (show false=true from hs) bz
theorem dY:OpR X (compareOp .NotEq) rNe:=by
 intro pins s σ H x y v u Q I rx ry h;obtain ⟨hs,q⟩:=h;cases x with
 | non=>
  cases rx;cases y with
  | non=>cases ry;exact PySem.EqNone.ne_none_none (bF I q (by simp))
  | bl j=>cases ry;exact PySem.EqNone.ne_none_bool (bF I q (by simp))
  | int j=>obtain ⟨t',rfl⟩:=ry;exact PySem.EqNone.ne_none_int (bF I q (by simp))
  | str j=>obtain ⟨t',rfl⟩:=ry;exact PySem.EqNone.ne_none_str (bF I q (by simp))
  | _=>exact absurd (show false=true from hs) bz
 | bl i=>
  cases rx;cases y with
  | non=>cases ry;exact PySem.EqNone.ne_bool_none (bF I q (by simp))
  | bl j=>cases ry;exact ne_bool (bF I q (congrArg not uo))
  | str j=>obtain ⟨t',rfl⟩:=ry;exact PySem.EqMixed.ne_bool_str (bF I q (by simp))
  | _=>exact absurd (show false=true from hs) bz
 | int i=>
  obtain ⟨t,rfl⟩:=rx;cases y with
  | non=>cases ry;exact PySem.EqNone.ne_int_none (bF I q (by simp))
  | int j=>obtain ⟨t',rfl⟩:=ry;exact ne_int (bF I q (congrArg not dec_int))
  | str j=>obtain ⟨t',rfl⟩:=ry;exact PySem.EqMixed.ne_int_str (bF I q (by simp))
  | _=>exact absurd (show false=true from hs) bz
 | str i=>
  obtain ⟨t,rfl⟩:=rx;cases y with
  | non=>cases ry;exact PySem.EqNone.ne_str_none (bF I q (by simp))
  | bl j=>cases ry;exact PySem.EqMixed.ne_str_bool (bF I q (by simp))
  | int j=>obtain ⟨t',rfl⟩:=ry;exact PySem.EqMixed.ne_str_int (bF I q (by simp))
  | str j=>obtain ⟨t',rfl⟩:=ry;exact ne_str (bF I q (congrArg not ur))
  | _=>exact absurd (show false=true from hs) bz
 | byt i=>
  obtain ⟨t,rfl⟩:=rx;cases y with
  | byt j=>obtain ⟨t',rfl⟩:=ry;exact W.ne_bytes (bF I q (congrArg not uq))
  | _=>exact absurd (show false=true from hs) bz
 | _=>cases y <;> exact absurd (show false=true from hs) bz
theorem oz:OpR X (compareOp .Lt) (rI0 λ i j=>.bl (decide (i < j))):=kQ λ _ _ _ _ _ _ _ q=>lt_int q
theorem ff:OpR X (compareOp .LtE) (rI0 λ i j=>.bl (decide (i<=j))):=kQ λ _ _ _ _ _ _ _ q=>le_int q
theorem gB:OpR X (compareOp .Gt) (rI0 λ i j=>.bl (decide (j < i))):=kQ λ _ _ _ _ _ _ _ q=>gt_int q
theorem oy:OpR X (compareOp .GtE) (rI0 λ i j=>.bl (decide (j<=i))):=kQ λ _ _ _ _ _ _ _ q=>ge_int q
theorem dM:OpR X (compareOp .Is) (λ x y H Q=>y = .non/\Q (.bl (decide (x = .non))) H):=by
 intro pins s σ H x y v u Q I rx ry h;obtain ⟨rfl,q⟩:=h;cases ry;refine is_none_gen (bF I q ?_);cases x <;> first
  | (cases rx;rfl)
  | (obtain ⟨t,rfl⟩:=rx;rfl)
theorem kR:OpR X (compareOp .IsNot) (λ x y H Q=>y = .non/\Q (.bl (!decide (x = .non))) H):=by
 intro pins s σ H x y v u Q I rx ry h;obtain ⟨rfl,q⟩:=h;cases ry;refine isnot_none_gen (bF I q ?_);cases x <;> first
  | (cases rx;rfl)
  | (obtain ⟨t,rfl⟩:=rx;rfl)
theorem OpR.or{r:R2}(h:OpR X f r)(h':OpR X f r'):OpR X f (λ x y H Q=>r x y H Q\/r' x y H Q):=by
 intro pins s σ H x y v u Q I rx ry q;rcases q with q | q
 ·exact h pins s σ H x y v u Q I rx ry q
 ·exact h' pins s σ H x y v u Q I rx ry q
theorem aP(b:Expr)(h:op≠.In:=by decide)(h2:op≠.NotIn:=by decide):behindInMarks op b=false:=by
 have e1:(op == CmpOp.In)=false:=by cases op <;> first | rfl | exact absurd rfl h
 have e2:(op == CmpOp.NotIn)=false:=by cases op <;> first | rfl | exact absurd rfl h2
 cases b <;> simp [behindInMarks,e1,e2]
theorem iW{r:R2}(ho:OpR X (compareOp op) r)(ha:PE X a ta)(hb:PE X b tb)(hm:behindInMarks op b=false):PE X (.Compare a [op] [b] pos) (tOp r ta tb):=by
 intro pins s σ H Q I h;exact wpAny_Compare1 (mT ha hb I h λ v u s2 x y H2 I2 rx ry q=>ho pins s2 σ H2 x y v u Q I2 rx ry q) hm
noncomputable def iq(t:TE):TT:=λ σ H Q=>t σ H λ x H'=>∃ k,x = .bl k/\Q k H'
theorem aQ{r:R2}(ho:OpR X (compareOp op) r)(ha:PE X a ta)(hb:PE X b tb)(hm:behindInMarks op b=false):PT X (.Compare a [op] [b] pos) (iq (tOp r ta tb)):=by
 intro pins s σ H Q I h;refine wpAny_isTrue_Compare1 (thn (ha pins s σ H _ I h) λ v s1 ⟨x,H1,I1,r1,q1⟩=>thn (hb pins s1 σ H1 _ I1 q1) λ u s2 ⟨y,H2,I2,r2,q2⟩=>
  thn (ho pins s2 σ H2 x y v u _ I2 r1 r2 q2) λ c s3 ⟨z,H3,I3,r3,k,e,q3⟩=>?_) hm
 subst e;cases r3;exact wpAny_truthy_bool ⟨H3,I3,q3⟩
noncomputable def yk(r r':R2)(ta tb tc:TE):TE:=λ σ H Q=>ta σ H λ x H1=>tb σ H1 λ y H2=>r x y H2 λ z H3=>∃ k,z = .bl k/\
 (if k=true then tc σ H3 λ w' H4=>r' y w' H4 Q else Q (.bl false) H3)
theorem jw{r:R2}(ho:OpR X (compareOp op) r)(ho':OpR X (compareOp op') r')(ha:PE X a ta)(hb:PE X b tb)(hc:PE X c tc)(hm:lastMarks [op,op'] [b,c]=false:=by with_unfolding_all rfl):PE X (.Compare a [op,op'] [b,c] pos) (yk r r' ta tb tc):=by
 intro pins s σ H Q I h;refine Compare_chain (thn (ha pins s σ H _ I h) λ v s1 ⟨x,H1,I1,r1,q1⟩=>chain_link (thn (hb pins s1 σ H1 _ I1 q1) λ u s2 ⟨y,H2,I2,r2,q2⟩=>
  thn (ho pins s2 σ H2 x y v u _ I2 r1 r2 q2) λ d s3 ⟨z,H3,I3,r3,k,e,q3⟩=>?_)) hm
 subst e;cases r3;refine wpAny_truthy_bool ?_;cases k with
 | false=>exact ite_ff ⟨.bl false,H3,I3,rfl,q3⟩
 | true=>exact ite_tt (chain_last (thn (hc pins s3 σ H3 _ I3 q3) λ w' s4 ⟨z',H4,I4,r4,q4⟩=>ho' pins s4 σ H4 y z' u w' Q I4 r2 r4 q4))
theorem wL{r:R2}(ho:OpR X (compareOp op) r)(ho':OpR X (compareOp op') r')(ha:PE X a ta)(hb:PE X b tb)(hc:PE X c tc)(hm:lastMarks [op,op'] [b,c]=false:=by with_unfolding_all rfl):PT X (.Compare a [op,op'] [b,c] pos) (iq (yk r r' ta tb tc)):=by
 intro pins s σ H Q I h;refine isTrue_chain (thn (ha pins s σ H _ I h) λ v s1 ⟨x,H1,I1,r1,q1⟩=>test_link (thn (hb pins s1 σ H1 _ I1 q1) λ u s2 ⟨y,H2,I2,r2,q2⟩=>
  thn (ho pins s2 σ H2 x y v u _ I2 r1 r2 q2) λ d s3 ⟨z,H3,I3,r3,k,e,q3⟩=>?_)) hm
 subst e;cases r3;refine wpAny_truthy_bool ?_;cases k with
 | false=>
  obtain ⟨k',e',q'⟩:=q3;cases e';exact ite_ff ⟨H3,I3,q'⟩
 | true=>
  refine ite_tt (test_last (thn (hc pins s3 σ H3 _ I3 q3) λ w' s4 ⟨z',H4,I4,r4,q4⟩=>thn (ho' pins s4 σ H4 y z' u w' _ I4 r2 r4 q4) λ d' s5 ⟨z2,H5,I5,r5,k2,e2,q5⟩=>?_));subst e2;cases r5;exact wpAny_truthy_bool ⟨H5,I5,q5⟩
noncomputable def mz(K:W.Frag)(x:V)(H:Hp)(k:Bool):Prop:=
 match x with
 | .non=>k=false
 | .bl b=>k=b
 | .int i=>k=(i != 0)
 | .str y=>y.length<=sizeLine/\k=((y.length:Int) != 0)
 | .byt y=>y.size<=sizeLine/\k=((y.size:Int) != 0)
 | .ref p=>(∃ xs,SqL K H p xs/\k = !xs.isEmpty)\/(∃ xs,SqT K H p xs/\k = !xs.isEmpty)\/∃ kvs,H p=some (.dK kvs)/\k = !kvs.isEmpty
 | _=>False
theorem zc9{kvs:List (κ × V)}{vs:List (κ × Value)}(r:KV kvs vs):(!vs.isEmpty) = !kvs.isEmpty:=by
 cases r <;> rfl
theorem vd{xs:List V}(r:Vals xs its):(!its.toArray.isEmpty) = !xs.isEmpty:=by
 cases r <;> simp
theorem gx:(sizeLine:Nat) < 2 ^ 63:=by rw [sizeLine_eq];decide
theorem yE:zaa X (λ x H Q=>∃ k,mz X.K x H k/\Q k H):=by
 intro pins s σ H x v Q I rx h;obtain ⟨k,e,q⟩:=h;have hl:=gx;have hs:sizeLine=16777216:=sizeLine_eq;cases x with
 | non=>
  cases rx;have e':k=false:=e;subst e';exact truthy_none ⟨H,I,q⟩
 | bl b=>
  cases rx;have e':k=b:=e;subst e';exact wpAny_truthy_bool ⟨H,I,q⟩
 | int i=>
  obtain ⟨t,rfl⟩:=rx;have e':k=(i != 0):=e;subst e';exact PySem.P.truthy_int ⟨H,I,q⟩
 | str y=>
  obtain ⟨t,rfl⟩:=rx;obtain ⟨hy,e'⟩:y.length<=sizeLine/\k=((y.length:Int) != 0):=e;subst e';exact PySem.P.truthy_str (by omega) ⟨H,I.tok _,q⟩
 | byt y=>
  obtain ⟨t,rfl⟩:=rx;obtain ⟨hy,e'⟩:y.size<=sizeLine/\k=((y.size:Int) != 0):=e;subst e';exact W.truthy_bytes (by omega) ⟨H,I.tok _,q⟩
 | ref p=>
  cases rx;have e':(∃ xs,SqL X.K H p xs/\k = !xs.isEmpty)\/(∃ xs,SqT X.K H p xs/\k = !xs.isEmpty)\/∃ kvs,H p=some (.dK kvs)/\k = !kvs.isEmpty:=e;rcases e' with ⟨xs,hx,e'⟩ | ⟨xs,hx,e'⟩ | ⟨kvs,hx,e'⟩
  ·subst e';obtain ⟨its,r,pl,hz⟩:=I.list hx;have hlen:=r.length;exact wpAny_truthy_list pl.isList (by simp only [a9];omega) ⟨H,I.tok _,by rw [vd r];exact q⟩
  ·subst e';obtain ⟨its,r,pl,hz⟩:=I.tuple hx;have hlen:=r.length;exact truthy_tuple pl (by simp only [a9];omega) ⟨H,I.tok _,by rw [vd r];exact q⟩
  ·subst e';obtain ⟨hz,hS,vs,r,m⟩:kvs.length<=sizeLine/\(p == sysModules)=false/\∃ vs,KV kvs vs/\s.heap.DictOf (bY X.prog X.w) p vs:=I.hok p _ hx;have hlen:kvs.length=vs.length:=Paired.length r;exact wpAny_truthy_dict hS m (by omega) ⟨H,I.tok _,by rw [zc9 r];exact q⟩
 | _=>exact (show False from e).elim
theorem zhF(ha:PE X a ta)(he:∀ whole,isTrue a X.env whole=(do let v ← whole;standAt a.pos;holding [v] (truthy v))):
  PT X a (λ σ H Q=>ta σ H λ x H'=>∃ k,mz X.K x H' k/\Q k H'):=by
 intro pins s σ H Q I h;exact isTrue_plain (thn (ha pins s σ H _ I h) λ v s1 ⟨x,H1,I1,r1,q1⟩=>yE pins s1 σ H1 x v Q I1 r1 q1) (he _)
theorem gf:OpR X (binaryOp .Add) (λ x y H Q=>∃ i j,x = .str i/\y = .str j/\i.length+j.length<=sizeLine/\Q (.str (i++j)) H):=by
 intro pins s σ H x y v u Q I rx ry h;obtain ⟨i,j,rfl,rfl,hz,q⟩:=h;obtain ⟨t,rfl⟩:=rx;obtain ⟨t',rfl⟩:=ry;exact add_str (λ t' tk=>⟨.str (i++j),H,I.tok _,⟨_,rfl⟩,q⟩) hz
theorem d7{x:V}(r:Vals [x] us):∃ u,us=[u]/\RelV x u:=by
 cases r with
 | cons r1 r2=>cases r2;exact ⟨_,rfl,r1⟩
theorem rX{x:V}(r:Vals [x,y] us):∃ u w',us=[u,w']/\RelV x u/\RelV y w':=by
 cases r with
 | cons r1 r2=>
  cases r2 with
  | cons r3 r4=>cases r4;exact ⟨_,_,rfl,r1,r3⟩
theorem zaY(hc:X.calm=true):CallR X (.builtin "max") (λ xs H Q=>∃ i j,xs=[.int i,.int j]/\Q (.int (if j > i then j else i)) H):=by
 intro pins s σ H xs us Q I r h;obtain ⟨i,j,rfl,q⟩:=h;obtain ⟨u,w',rfl,⟨t,rfl⟩,⟨t',rfl⟩⟩:=rX r;refine max_two_ints (I.ok.hd hc) λ h' tk k=>⟨_,H,I.kept k,?_,q⟩
 by_cases hj:j > i
 ·rw [if_pos hj,if_pos hj];exact ⟨_,rfl⟩
 ·rw [if_neg hj,if_neg hj];exact ⟨_,rfl⟩
end
structure ObjM (h:Heap) (x dx C:Addr) (mA:Str->Option Value):Prop where
 obj:h.get? x=some (W.instObj C dx)
 ns:h.Ns1 dx mA
 ne:dx≠x
theorem zdM(n:h.Ns1 dx mA):∃ od,h.get? dx=some od/\∀ name,W.lookIn name od=some (mA name):=by
 obtain ⟨o,es,ep,ho,hd,hk,_,hm⟩:=n;refine ⟨o,ho,λ name=>?_⟩;have e:=hm name;unfold nsFind findBy at e;rw [← Array.find?_toList] at e;unfold W.lookIn;rw [hd];dsimp only
 split
 ·rename_i y q
  rw [q] at e;exact congrArg some e
 ·rename_i q
  rw [q] at e;have a:es.toList.any (·.refKey)=false:=by
   rw [List.any_eq_false];intro y hy;obtain ⟨z,t,hkey⟩:=hk y (Array.mem_toList_iff.mp hy);simp [DictEntry.refKey,hkey]
  have a':¬ es.toList.any (·.refKey)=true:=by rw [a];exact bz
  rw [if_neg a'];exact congrArg some e
theorem ObjM.look{x:Addr}(I:ObjM h x dx C mA):∃ od,W.InstAt h x (W.instObj C dx) C (some od)/\∀ name,W.lookIn name od=some (mA name):=
 let ⟨od,ho,hl⟩:=zdM I.ns
 ⟨od,⟨I.obj,rfl,rfl,ho⟩,hl⟩
section
variable {x f:Addr}
theorem zcb{expr:Bool}(X:K.In s.heap)(I:ObjM s.heap x dx C mA)(hg:W.plainGet K C name=true)(hh:W.hasDictIn K C=true)(ha:W.findIn K (.ref C) name=some none)(hv:mA name=some v)(hv':W.handedIn v=true)(h:Q v { s with toks:=s.toks+1 }):
  wpAny (model prog w) A (getAttr (.ref x) name expr) Q E s:=by
 obtain ⟨od,J,hl⟩:=I.look;exact W.get_value X J (W.plainGet_of hg).1 (W.findObj_own hh ha rfl (by rw [hl,hv])) hv' h
theorem zcc{Q:Value × List Value->Shared->Prop}(X:K.In s.heap)(I:ObjM s.heap x dx C mA)(hg:W.plainGet K C name=true)(hf:W.findIn K (.ref C) name=some (some (.ref f)))(ht:W.isFn K (.ref f)=true)(hv:mA name=none)(h:Q (.ref f,[.ref x]) s):
  wpAny (model prog w) A (getMethod (.ref x) name pl) Q E s:=by
 obtain ⟨od,J,hl⟩:=I.look;exact W.method_fn X J (W.plainGet_of hg).1 (W.plainGet_of hg).2 hf (beq_iff_eq.mp ht) (by show (W.lookIn name od).map (·.isSome)=some false;rw [hl,hv];rfl) h
theorem set_map{ns:List Str}{Q:Unit->Shared->Prop}(X:K.In s.heap)(I:ObjM s.heap x dx C mA)(hs:W.findIn K (.ref C) "__setattr__" = some (some (.builtin "object.__setattr__")))(hp:W.plainOver K C=true)(ht:W.takerIn K C name=some none)(hh:W.hasDictIn K C=true)(hw:PySem.Within mA ns)(hsz:ns.length<=sizeLine)(h:∀ h',ObjM h' x dx C (λ y=>if y=name then some v else mA y)->Heap.SameBut dx s.heap h'->Q () { s with heap:=h',toks:=s.toks+2 }):
  wpAny (model prog w) A (setAttr (.ref x) name v) Q E s:=by
 obtain ⟨od,J,hl⟩:=I.look;refine W.set_plain X J hs (W.osa_open (s:={ s with toks:=s.toks+1 }) (r:=none) X J hp ht λ b=>?_);obtain ⟨cd,hc,hd'⟩:=W.any_some hh;have hx:s.heap.get? x=some ⟨.ref C,some dx,.plain,#[]⟩:=I.obj;refine af (aG (af (af (wpAny_loadPart hx (af (W.Looks.here (s:={ s with toks:=s.toks+1 }) (W.looks_clsIn X hc) ?_))))));rw [hd'];refine aG (a:=some dx) (af (aG (af ?_)));refine wpAny_nsSet1 (s:={ s with toks:=s.toks+1 }) I.ns λ h' hn2 hs2=>?_;obtain ⟨oD,esD,epD,hoD,hdD,hcD⟩:=hn2.count (PySem.Within.cons name v hw);refine af (wpAny_lookBehind hoD (by rw [hdD];exact pastItsLine_dict (Nat.le_trans hcD (by rw [List.length_cons];omega))) ?_);exact aG (h _ ⟨(hs2.2 _ (Ne.symm I.ne)).trans I.obj,hn2,I.ne⟩ hs2)
theorem zem{vs:List Value}(X:K.In s.heap)(hm:W.makesIn K C=true)(hi:W.findIn K (.ref C) "__init__" = some (some (.ref f)))(hf:W.typeIn K (.ref f)=some (.type "function"))(h:codeAny (model prog w) (A.under (.builtin "type.__call__" ⟨.ref C::vs,kw⟩)) (.call (.ref f) ⟨.ref (s.heap.objs.size+1)::vs,kw⟩) (W.InitBack (s.heap.objs.size+1) R)
   { s with heap:=(s.heap.push W.emptyDict).push (W.instObj C s.heap.objs.size) }):
  codeAny (model prog w) A (.call (.ref C) ⟨vs,kw⟩) R s:=by
 obtain ⟨hh,g,d,t,os⟩:=s;exact W.make_core (W.makes_of X hm) (W.looks_findIn X hi) (λ self=>W.bind_fn X self hf) (.inl rfl) h
end
noncomputable def cy(f:Str)(v:V):List (Str × V)->List (Str × V)
 | []=>[(f,v)]
 | (g,x)::r=>if g=f then (g,v)::r else (g,x)::cy f v r
theorem vy(f g:Str)(v:V):∀ fs:List (Str × V),(cy f v fs).lookup g=if g=f then some v else fs.lookup g
 | []=>by
  show List.lookup g [(f,v)]=_;by_cases h:g=f
  ·have hb:(g == f)=true:=beq_iff_eq.mpr h;simp only [List.lookup,hb,if_pos h]
  ·have hb:(g == f)=false:=beq_eq_false_iff_ne.mpr h;simp only [List.lookup,hb,if_neg h]
 | (k,x)::r=>by
  have ih:=vy f g v r;rw [show cy f v ((k,x)::r)=(if k=f then (k,v)::r else (k,x)::cy f v r) from rfl];by_cases hk:k=f
  ·rw [if_pos hk];by_cases h:g=k
   ·have hb:(g == k)=true:=beq_iff_eq.mpr h;simp only [List.lookup,hb,if_pos (h.trans hk)]
   ·have hb:(g == k)=false:=beq_eq_false_iff_ne.mpr h;simp only [List.lookup,hb,if_neg (λ e:g=f=>h (e.trans hk.symm))]
  ·rw [if_neg hk];by_cases h:g=k
   ·have hb:(g == k)=true:=beq_iff_eq.mpr h;simp only [List.lookup,hb,if_neg (λ e:g=f=>hk (h.symm.trans e))]
   ·have hb:(g == k)=false:=beq_eq_false_iff_ne.mpr h;simp only [List.lookup,hb];exact ih
theorem nF(f:Str)(v:V):∀ fs:List (Str × V),f∈(cy f v fs).map (·.1)/\∀ g,g∈fs.map (·.1)->g∈(cy f v fs).map (·.1)
 | []=>⟨by simp [cy],λ g h=>by simp at h⟩
 | (k,x)::r=>by
  obtain ⟨i1,i2⟩:=nF f v r;rw [show cy f v ((k,x)::r)=(if k=f then (k,v)::r else (k,x)::cy f v r) from rfl];by_cases hk:k=f
  ·rw [if_pos hk];subst hk;exact ⟨by simp,λ g h=>by simpa using h⟩
  ·rw [if_neg hk];refine ⟨?_,λ g h=>?_⟩
   ·rw [List.map_cons];exact bp _ i1
   ·rw [List.map_cons] at h ⊢;rcases al_mc.mp h with e | e
    ·exact al_mc.mpr (.inl e)
    ·exact bp _ (i2 g e)
theorem vt(f:Str)(v:V):∀ fs:List (Str × V),(cy f v fs).length<=fs.length+1
 | []=>by simp [cy]
 | (k,x)::r=>by
  have ih:=vt f v r;rw [show cy f v ((k,x)::r)=(if k=f then (k,v)::r else (k,x)::cy f v r) from rfl];by_cases hk:k=f
  ·rw [if_pos hk,List.length_cons,List.length_cons];omega
  ·rw [if_neg hk,List.length_cons,List.length_cons];omega
theorem RelO.some_of{v:V}{o:Option Value}(r:RelO (some v) o):∃ u,o=some u/\RelV v u:=by
 cases o with
 | none=>exact (show False from r).elim
 | some u=>exact ⟨u,rfl,r⟩
theorem RelO.none_of{o:Option Value}(r:RelO none o):o=none:=by
 cases o with
 | none=>rfl
 | some u=>exact (show False from r).elim
theorem zcg{v:V}(r:RelV v u):W.handedIn u=true:=by
 cases v with
 | non=>cases (show u=Value.none from r);rfl
 | bl b=>cases (show u=Value.bool b from r);rfl
 | int i=>obtain ⟨t,e⟩:=(show ∃ t,u=Value.int i t from r);cases e;rfl
 | str x=>obtain ⟨t,e⟩:=(show ∃ t,u=Value.str x t from r);cases e;rfl
 | byt b=>obtain ⟨t,e⟩:=(show ∃ t,u=Value.bytes b t from r);cases e;rfl
 | flt b=>obtain ⟨t,e⟩:=(show ∃ t,u=Value.float b t from r);cases e;rfl
 | ref a=>cases (show u=Value.ref a from r);rfl
 | ty n=>cases (show u=Value.type n from r);rfl
section
variable {fs fs':List (Str × V)}
theorem ky(hok:HOk P w H h)(e:H a=some (.ins C dx fs)):∃ mA,ObjM h a dx C mA/\(∀ f,RelO (fs.lookup f) (mA f))/\PySem.Within mA (fs.map (·.1))/\fs.length<=1000/\H dx=some (.own a):=by
 obtain ⟨d,z,ne,ob,mA,n,r,q⟩:=(show ObjOk P w H h a (.ins C dx fs) from hok a _ e)
 exact ⟨mA,⟨ob,n,ne⟩,r,q,z,d⟩
end
structure Cls (K:W.Frag) (C:Addr):Prop where
 pg:W.plainGet K C Str.empty=true
 hd:W.hasDictIn K C=true
 po:W.plainOver K C=true
 sa:W.findIn K (.ref C) "__setattr__" = some (some (.builtin "object.__setattr__"))
theorem Cls.get(c:Cls K C)(f:Str):W.plainGet K C f=true:=c.pg
noncomputable def NoAttr(K:W.Frag)(C:Addr)(f:Str):Prop:=W.findIn K (.ref C) f=some none
theorem NoAttr.taker{f:Str}(n:NoAttr K C f):W.takerIn K C f=some none:=by
 unfold W.takerIn;rw [show W.findIn K (.ref C) f=some none from n];rfl
structure iH (K:W.Frag) (C:Addr) (m:Str) (f:Addr):Prop where
 at_:W.findIn K (.ref C) m=some (some (.ref f))
 fn:W.isFn K (.ref f)=true
 kp:W.keepIn K (.ref f)=true
section
variable {fs:List (Str × V)} {f:Str} {v:V}
theorem u8{b:Bool}(I:Inv X pins σ H s)(e:H a=some (.ins C dx fs))(c:Cls X.K C)(n:NoAttr X.K C f)(l:fs.lookup f=some v)(h:∀ u s',Inv X pins σ H s'->RelV v u->Q u s'):wpAny (model X.prog X.w) A (getAttr (.ref a) f b) Q E s:=by
 obtain ⟨mA,O,r,_,_,_⟩:=ky I.hok e;obtain ⟨u,hu,ru⟩:=RelO.some_of (v:=v) (o:=mA f) (by rw [← l];exact r f);exact zcb I.kIn O (c.get f) c.hd n hu (zcg ru) (h u _ (I.tok _) ru)
theorem nB{g:Addr}{Q:Value × List Value->Shared->Prop}(I:Inv X pins σ H s)(e:H a=some (.ins C dx fs))(c:Cls X.K C)(k:iH X.K C m g)(l:fs.lookup m=none)(h:Q (.ref g,[.ref a]) s):wpAny (model X.prog X.w) A (getMethod (.ref a) m pl) Q E s:=by
 obtain ⟨mA,O,r,_,_,_⟩:=ky I.hok e;have hn:mA m=none:=RelO.none_of (by rw [← l];exact r m);exact zcc I.kIn O (c.get m) k.at_ k.fn hn h
theorem xk{Q:Unit->Shared->Prop}(I:Inv X pins σ H s)(e:H a=some (.ins C dx fs))(c:Cls X.K C)(n:NoAttr X.K C f)(hl:fs.length < 1000)(ry:RelV y u)(h:∀ s',Inv X pins σ (upd H a (.ins C dx (cy f y fs))) s'->Q () s'):wpAny (model X.prog X.w) A (setAttr (.ref a) f u) Q E s:=by
 obtain ⟨mA,O,r,wi,_,ho⟩:=ky I.hok e;have hz:(fs.map (·.1)).length<=sizeLine:=by rw [aj,sizeLine_eq];omega
 refine set_map I.kIn O c.sa c.po n.taker c.hd wi hz λ h' O' sb=>h _ ?_;have hd:∃ o,h'.get? dx=some o:=let ⟨o,_,_,e',_⟩:=O'.ns;⟨o,e'⟩;refine I.write (x:=a) (e:=dx) (by rw [e];exact True.intro) (.inr ho) (λ b q hb z=>(sb.2 b hb).trans z) hd ?_;refine ⟨by rw [ag O.ne];exact ho,?_,O.ne,O'.obj,_,O'.ns,λ g=>?_,λ g hg=>?_⟩
 ·have:=vt f y fs;omega
 ·show RelO ((cy f y fs).lookup g) (if g=f then some u else mA g);rw [vy];by_cases q:g=f
  ·rw [if_pos q,if_pos q];exact ry
  ·rw [if_neg q,if_neg q];exact r g
 ·by_cases q:g=f
  ·rw [q];exact (nF f y fs).1
  ·refine (nF f y fs).2 g (wi g λ z=>hg ?_);show (if g=f then some u else mA g)=none;rw [if_neg q];exact z
theorem Inv.made(I:Inv X pins σ H s):Inv X pins σ (upd (upd H s.heap.objs.size (.own (s.heap.objs.size+1))) (s.heap.objs.size+1) (.ins C s.heap.objs.size []))
  { s with heap:=(s.heap.push W.emptyDict).push (W.instObj C s.heap.objs.size) }:=by
 have e1:(s.heap.push W.emptyDict).get? s.heap.objs.size=some W.emptyDict:=Heap.get?_push_size s.heap rfl;have e2:((s.heap.push W.emptyDict).push (W.instObj C s.heap.objs.size)).get? (s.heap.objs.size+1)=some (W.instObj C s.heap.objs.size):=by
  have:=Heap.get?_push_size (s.heap.push W.emptyDict) (o:=W.instObj C s.heap.objs.size) rfl
  rwa [Heap.size_push] at this
 have e3:(s.heap.push W.emptyDict).Ns s.heap.objs.size (λ _=>none):=⟨W.emptyDict,#[],_,e1,rfl,(λ e he=>absurd he (by simp)),λ _=>rfl⟩
 have I1:=I.laid (a:=s.heap.objs.size) (o:=.own (s.heap.objs.size+1)) (h':=s.heap.push W.emptyDict) (t':=s.toks) (λ b u q=>aY _ q) (Nat.le_refl _) ⟨_,e1⟩;refine I1.laid (a:=s.heap.objs.size+1) (o:=.ins C s.heap.objs.size []) (t':=s.toks) (λ b u q=>aY _ q) (Nat.le_of_eq (Heap.size_push _ _)) ?_;have ne:s.heap.objs.size≠s.heap.objs.size+1:=Nat.ne_of_lt (Nat.lt_succ_self _);refine ⟨by rw [ag ne,ah],Nat.zero_le _,ne,e2,λ _=>none,(Heap.Ns1.of_empty e3).at λ o q=>aY _ q,λ _=>True.intro,λ y hy=>absurd rfl hy⟩
theorem zag{f:Str}(hb:attributeBase e f env (eval e env)=eval e env)(h:wpAny (model prog w) A (eval e env) (λ o s₁=>wpAny (model prog w) A (getAttr o f true) Q E s₁) E s):wpAny (model prog w) A (eval (.Attribute e f pos) env) Q E s:=
 Attribute_any_ h (by rw [arm_eval_Attribute,hb])
end
noncomputable def gm(K:W.Frag)(ta:TE)(f:Str):TE:=λ σ H Q=>ta σ H λ x H1=>∃ a C dx fs v,x = .ref a/\H1 a=some (.ins C dx fs)/\Cls K C/\NoAttr K C f/\fs.lookup f=some v/\Q v H1
noncomputable def jG(K:W.Frag)(ta tv:TE)(f:Str):TS:=λ D σ H=>tv σ H λ y H1=>ta σ H1 λ x H2=>∃ a C dx fs,x = .ref a/\H2 a=some (.ins C dx fs)/\Cls K C/\NoAttr K C f/\fs.length < 1000/\
 D.nx σ (upd H2 a (.ins C dx (cy f y fs)))
noncomputable def sM(X:Cx)(op:Operator)(rd:V->V->Hp->VK->Prop):Prop:=
 ∀ (pins:List (Addr × Obj)) (s:Shared) (σ:St) (H:Hp) (x y:V) (u v:Value) (Q:VK),Inv X pins σ H s->RelV x u->RelV y v->rd x y H Q->wpAny (model X.prog X.w) X.A (inplaceOp op u v) (EP X pins σ Q) X.xe s
noncomputable def xg(K:W.Frag)(ta tv:TE)(rd:V->V->Hp->VK->Prop)(f:Str):TS:=λ D σ H=>ta σ H λ x H1=>∃ a C dx fs v,x = .ref a/\H1 a=some (.ins C dx fs)/\Cls K C/\NoAttr K C f/\fs.lookup f=some v/\
 tv σ H1 λ y H2=>rd v y H2 λ z H3=>∃ dx' fs',H3 a=some (.ins C dx' fs')/\fs'.length < 1000/\D.nx σ (upd H3 a (.ins C dx' (cy f z fs')))
section
variable {o:Expr} {f:Str}
theorem cG(he:PE X e ta)(hb:attributeBase e f X.env (eval e X.env)=eval e X.env):PE X (.Attribute e f pos) (gm X.K ta f):=by
 intro pins s σ H Q I h;refine zag hb (thn (he pins s σ H _ I h) λ u s1 ⟨x,H1,I1,rx,a,C,dx,fs,v,ex,ea,c,n,l,q⟩=>?_);subst ex;obtain rfl:u=Value.ref a:=rx;exact u8 I1 ea c n l λ u' s2 I2 ru=>⟨v,H1,I2,ru,q⟩
theorem cB(ha:PE X o ta)(hv:PE X value tv)(hs:swapsWith value (some (.Attribute o f pos')) pos.line X.env=pure false):PS X (.Assign [.Attribute o f pos'] value pos) (jG X.K ta tv f):=by
 intro pins s σ H D I h;refine plainObj_wpAny_Assign_Attribute (thn (hv pins s σ H _ I h) λ u s1 ⟨y,H1,I1,ry,q⟩=>thn (ha pins s1 σ H1 _ I1 q) λ ov s2 ⟨x,H2,I2,rx,a,C,dx,fs,ex,ea,c,n,l,q2⟩=>?_) hs;subst ex;obtain rfl:ov=Value.ref a:=rx;exact xk I2 ea c n l ry λ s3 I3=>⟨σ,_,I3,q2⟩
theorem oM{op:Operator}{rd:V->V->Hp->VK->Prop}(ha:PE X o ta)(hv:PE X value tv)(hop:sM X op rd):PS X (.AugAssign (.Attribute o f tpos) op value pos) (xg X.K ta tv rd f):=by
 intro pins s σ H D I h;refine wpAny_AugAssign_AttributeAny (thn (ha pins s σ H _ I h) λ ov s1 ⟨x,H1,I1,rx,a,C,dx,fs,v,ex,ea,c,n,l,q⟩=>?_);subst ex;obtain rfl:ov=Value.ref a:=rx;refine u8 I1 ea c n l λ u s2 I2 ru=>thn (hv pins s2 σ H1 _ I2 q) λ w3 s3 ⟨y,H2,I3,ry,q3⟩=>thn (hop pins s3 σ H2 v y u w3 _ I3 ru ry q3) λ w4 s4 ⟨z,H3,I4,rz,dx',fs',ea',l',q4⟩=>?_;exact xk I4 ea' c n l' rz λ s5 I5=>⟨σ,_,I5,q4⟩
noncomputable def wQ:V->V->Hp->VK->Prop:=λ x y H Q=>∃ i j,x = .int i/\y = .int j/\Q (.int (i+j)) H
theorem nE:sM X .Add wQ:=by
 rintro pins s σ H x y u v Q I rx ry ⟨i,j,rfl,rfl,q⟩;obtain ⟨t,rfl⟩:=(show ∃ t,u=Value.int i t from rx)
 obtain ⟨t',rfl⟩:=(show ∃ t',v=Value.int j t' from ry)
 exact PyProof.Rows.iadd_int ⟨.int (i+j),H,I.tok _,⟨_,rfl⟩,q⟩
theorem zla{args:List Expr}(he:PE X e te)(I:Inv X pins σ H s)(h:te σ H λ x H1=>∃ a C dx fs g,x = .ref a/\H1 a=some (.ins C dx fs)/\Cls X.K C/\iH X.K C m g/\fs.lookup m=none/\
   ∀ s1,Inv X pins σ H1 s1->wpAny (model X.prog X.w) X.A (callWith pos (.ref g) [.ref a] (backTo pos (starEach args X.env)) (backToKw pos (keywordEach [] X.env))) Q X.xe s1)(ht:eval (.Call (.Attribute e m apos) args [] pos) X.env=(do
   let ov ← eval e X.env
   standAt apos.atName
   let (f,first) ← holding [ov] (getMethod ov m pl)
   callWith pos f first (backTo pos (starEach args X.env)) (backToKw pos (keywordEach [] X.env)))):
  wpAny (model X.prog X.w) X.A (eval (.Call (.Attribute e m apos) args [] pos) X.env) Q X.xe s:=by
 refine W.methodCall_KW (pl:=pl) (thn (he pins s σ H _ I h) λ u s1 ⟨x,H1,I1,rx,a,C,dx,fs,g,ex,ea,c,k,l,q⟩=>?_) ht;subst ex;obtain rfl:u=Value.ref a:=rx;exact nB I1 ea c k l (q s1 I1)
end
section
variable {c:Value} {b:Bool}
inductive dS (K:W.Frag) (H:Hp):V->Value->Prop where
 | non:dS K H .non (.type "NoneType")
 | bl (x:Bool):dS K H (.bl x) (.type "bool")
 | int (i:Int):dS K H (.int i) (.type "int")
 | str (x:Str):dS K H (.str x) (.type "str")
 | flt (x:UInt64):dS K H (.flt x) (.type "float")
 | lst {a:Addr} {xs:List V} (e:H a=some (.lst xs)):dS K H (.ref a) (.type "list")
 | frz {a:Addr} {o:Obj} {xs:List V} (e:H a=some (.frz o (.lst xs))):dS K H (.ref a) (.type "list")
 | tup {a:Addr} {xs:List V} (e:H a=some (.tup xs)):dS K H (.ref a) (.type "tuple")
 | dK {a:Addr} {kvs:List (Key × V)} (e:H a=some (.dK kvs)):dS K H (.ref a) (.type "dict")
 | dT {a:Addr} {kvs:List (List Key × V)} (e:H a=some (.dT kvs)):dS K H (.ref a) (.type "dict")
 | ins {a C dx:Addr} {fs:List (Str × V)} (e:H a=some (.ins C dx fs)) (cl:Cls K C) (ha:W.findIn K (.ref C) "__class__" = some (some (.builtin "object.__class__")))
   (hn:W.specialIn K (.builtin "object.__class__") "__get__" = some (some (.builtin "getset_descriptor.__get__"))) (htk:W.takesIn K (.builtin "object.__class__")=some true)
   (hm:W.mroIn K C (.type "object")=some true):dS K H (.ref a) (.ref C)
theorem zdd{x:V}{t:Value}(I:Inv X pins σ H s)(rx:RelV x u)(ty:dS X.K H x t)(e:W.kitOne X.K t c=some b)(h:∀ tk,Q (.bool b) { s with toks:=tk }):
  wpAny (model X.prog X.w) A (call (.builtin "isinstance") [u,c]) Q E s:=by
 cases ty with
 | non=>cases (show u=Value.none from rx);exact W.kia_one W.kitx_none I.kIn True.intro e (λ z=>nomatch z) h
 | bl y=>cases (show u=Value.bool y from rx);exact W.kia_one W.kitx_bool I.kIn True.intro e (λ z=>nomatch z) h
 | int i=>obtain ⟨t,q⟩:=(show ∃ t,u=Value.int i t from rx);cases q;exact W.kia_one W.kitx_int I.kIn True.intro e (λ z=>nomatch z) h
 | str y=>obtain ⟨t,q⟩:=(show ∃ t,u=Value.str y t from rx);cases q;exact W.kia_one W.kitx_str I.kIn True.intro e (λ z=>nomatch z) h
 | flt y=>obtain ⟨t,q⟩:=(show ∃ t,u=Value.float y t from rx);cases q;exact W.kia_one W.kitx_float I.kIn True.intro e (λ z=>nomatch z) h
 | @lst a xs ea=>
  cases (show u=Value.ref a from rx);obtain ⟨_,_,n,_,h1⟩:=(show ObjOk X.prog X.w H s.heap a (.lst xs) from I.hok a _ ea)
  exact W.kia_one W.kitx_list I.kIn ⟨_,h1,rfl⟩ e (λ z=>nomatch z) h
 | @frz a ob xs ea=>
  cases (show u=Value.ref a from rx);obtain ⟨_,_,_,n,_,h1⟩:=(show ObjOk X.prog X.w H s.heap a (.frz ob (.lst xs)) from I.hok a _ ea)
  exact W.kia_one W.kitx_list I.kIn ⟨_,h1,rfl⟩ e (λ z=>nomatch z) h
 | @tup a xs ea=>
  cases (show u=Value.ref a from rx);obtain ⟨_,_,_,p⟩:=(show ObjOk X.prog X.w H s.heap a (.tup xs) from I.hok a _ ea)
  obtain ⟨o,h1,h2,_⟩:=p;exact W.kia_one W.kitx_tuple I.kIn ⟨o,h1,h2⟩ e (λ z=>nomatch z) h
 | @dK a kvs ea=>
  cases (show u=Value.ref a from rx);obtain ⟨_,_,vs,_,p⟩:=(show ObjOk X.prog X.w H s.heap a (.dK kvs) from I.hok a _ ea)
  obtain ⟨o,es,ep,h1,h2,_⟩:=p;exact W.kia_one W.kitx_dict I.kIn ⟨o,h1,h2.1⟩ e (λ z=>nomatch z) h
 | @dT a kvs ea=>
  cases (show u=Value.ref a from rx);obtain ⟨_,_,xs,_,o,es,ep,h1,h2,_⟩:=(show ObjOk X.prog X.w H s.heap a (.dT kvs) from I.hok a _ ea)
  exact W.kia_one W.kitx_dict I.kIn ⟨o,h1,h2.1⟩ e (λ z=>nomatch z) h
 | @ins a C dx fs ea cl ha hn htk hm=>
  cases (show u=Value.ref a from rx);obtain ⟨mA,O,_⟩:=ky I.hok ea;obtain ⟨od,J,_⟩:=O.look;exact W.kia_one (W.kitx_own (cl.get _) cl.hd ha hn htk hm) I.kIn J e (λ z=>nomatch z) h
end
structure Room (k:Nat) (A:Around):Prop where
 hd:A.handled=none
 dp:A.depth+3 * k+5 < recursionLimit
 un:A.units+16 * k+200 < cLine
theorem Room.mono{k:Nat}(r:Room k A)(h:j<=k):Room j A:=⟨r.hd,by have:=r.dp;omega,by have:=r.un;omega⟩
theorem Room.deeper{k:Nat}(r:Room (k+1) A)(env:Env):Room k (A.deeper env):=
 ⟨r.hd,by have:=r.dp;show A.depth+1+3 * k+5 < _;omega,by have:=r.un;show A.units+3+16 * k+200 < _;omega⟩
theorem Room.in1{k:Nat}(r:Room (k+1) A):Room k A.in1:=
 ⟨r.hd,by have:=r.dp;show A.depth+3 * k+5 < _;omega,by have:=r.un;show A.units+1+16 * k+200 < _;omega⟩
theorem zel     : (A.under (.builtin "type.__call__" ⟨.ref C::us,kw⟩)).depth=A.depth+1:=by
 first | rfl | simp [Around.under,Code.weight,Code.isCreation,Code.isGuard,Code.isCaller,Code.frames,Code.isFrame,guardIds]
theorem zen     : (A.under (.builtin "type.__call__" ⟨.ref C::us,kw⟩)).units=A.units+1:=by
 first | rfl | simp [Around.under,Code.cUnits,Code.frames,Code.isFrame]
theorem Room.make{k:Nat}(r:Room (k+1) A)(C:Addr)(us:List Value)(kw:List (Str × Value)):Room k (A.under (.builtin "type.__call__" ⟨.ref C::us,kw⟩)):=
 ⟨r.hd,by have:=r.dp;rw [zel];omega,by have:=r.un;rw [zen];omega⟩
theorem Room.depth{k:Nat}(r:Room k A):A.depth < recursionLimit:=by have:=r.dp;omega
theorem Room.units{k:Nat}(r:Room k A):A.units+64 < cLine:=by have:=r.un;omega
noncomputable def dQ:TA:=λ _ H Q=>Q [] H
noncomputable def gK(ta:TE)(tr:TA):TA:=λ σ H Q=>ta σ H λ x H1=>tr σ H1 λ xs H2=>Q (x::xs) H2
section
variable {t:TA}
theorem ae:PA X [] dQ:=λ _ _ _ _ H Q I h=>Calls.spliced_nil ⟨[],H,I,.nil,h⟩
theorem aa(ha:PE X e te)(hr:PA X es t)(hs:starEach (e::es) X.env=(false,eval e X.env)::starEach es X.env:=by rfl):PA X (e::es) (gK te t):=by
 intro pos pins s σ H Q I h;rw [hs];show wpAny _ _ (spliced ((false,eval e X.env)::backTo pos (starEach es X.env))) _ _ s;refine Calls.spliced_cons (thn (ha pins s σ H _ I h) λ u s1 ⟨x,H1,I1,r1,q1⟩=>?_);exact thn (hr pos pins s1 σ H1 _ I1 q1) λ us s2 ⟨xs,H2,I2,r2,q2⟩=>⟨x::xs,H2,I2,.cons r1 r2,q2⟩
noncomputable def zjG(t:TA):TE:=λ σ H Q=>t σ H λ xs H1=>xs.length<=sizeLine/\∀ p,H1 p=none->Q (.ref p) (upd H1 p (.tup xs))
noncomputable def zjw(t:TA):TE:=λ σ H Q=>t σ H λ xs H1=>xs.length<=sizeLine/\∀ p,H1 p=none->Q (.ref p) (upd H1 p (.lst xs))
theorem gh{x1}(h:PA X es t):PE X (.Tuple es x1 pos) (zjG t):=by
 intro pins s σ H Q I hq;refine wpAny_Tuple_spliced (thn (h pos pins s σ H _ I hq) λ us s1 ⟨xs,H1,I1,r,z,q⟩=>⟨by rw [← r.length];exact z,?_⟩);have hf:H1 s1.heap.objs.size=none:=I1.hok.fresh (Nat.le_refl _);refine ⟨.ref s1.heap.objs.size,upd H1 s1.heap.objs.size (.tup xs),I1.laid (t':=s1.toks) (λ b u e=>aY _ e) (Nat.le_refl _) ?_,rfl,q _ hf⟩;exact ⟨z,us,r,⟨_,Heap.get?_push_size _ rfl,rfl,_,rfl⟩⟩
theorem bD(h:PA X es t):PE X (.List es pos) (zjw t):=by
 intro pins s σ H Q I hq;refine wpAny_List_spliced (thn (h pos pins s σ H _ I hq) λ us s1 ⟨xs,H1,I1,r,z,q⟩=>⟨by rw [← r.length];exact z,?_⟩);have hf:H1 s1.heap.objs.size=none:=I1.hok.fresh (Nat.le_refl _);refine ⟨.ref s1.heap.objs.size,upd H1 s1.heap.objs.size (.lst xs),I1.laid (t':=s1.toks) (λ b u e=>aY _ e) (Nat.le_refl _) ?_,rfl,q _ hf⟩;exact ⟨z,us,0,r,Heap.get?_push_size _ rfl⟩
end
noncomputable abbrev Sp:=List V->Hp->VK->XK->Prop
variable {sp sp':Sp}
noncomputable abbrev CXT:=List Env->Hp->Shared->XK->Value->Shared->Prop
variable {CX:CXT}
structure Env0 (P:Program) (w:World) (K:W.Frag) (mg:Str->Option Value) (base:Heap) (A:Around) (outer:List Env) (s:Shared) (H:Hp):Prop where
 frames:A.frames=some outer
 mod:Mod K mg base
 bs:∀ b o,base.get? b=some o->s.heap.get? b=some o/\H b=none
 bsz:base.objs.size<=s.heap.objs.size
 funs:s.heap.FunFrames base outer
 frf:∀ b∈frs outer,H b=none
 hok:HOk P w H s.heap
 bare:AllBare s.gens
noncomputable def CE(outer:List Env)(P:Program)(w:World)(H:Hp)(s:Shared)(Q:VK)(u:Value)(s':Shared):Prop:=
 ∃ v H',s'.os=s.os/\AllBare s'.gens/\Un (frs outer) [] H H' s.heap s'.heap/\HOk P w H' s'.heap/\RelV v u/\Q v H'
noncomputable def CR(CX:CXT)(outer:List Env)(P:Program)(w:World)(H:Hp)(s:Shared)(Q:VK)(E:XK)(r:Result)(s':Shared):Prop:=
 match r with
 | .ok (.ret u)=>CE outer P w H s Q u s'
 | .ok _=>False
 | .error e=>CX outer H s E e s'
structure FnOk (P:Program) (w:World) (K:W.Frag) (mg:Str->Option Value) (base:Heap) (CX:CXT) (k:Nat) (f:Addr) (fd:FuncData) (ps:List Str) (sp:Sp):Prop where
 len:∀ vs H Q E,sp vs H Q E->vs.length=ps.length
 run:∀ (A:Around) (outer:List Env) (s:Shared) (H:Hp) (args:Args) (us:List Value) (vs:List V) (Q:VK) (E:XK),Room k A->Env0 P w K mg base A outer s H->BindsTo s fd args (ps.zip us)->Vals vs us->sp vs H Q E->
  codeAny (model P w) A (.call (.ref f) args) (CR CX outer P w H s Q E) s
theorem FnOk.mono{P:Program}{w:World}{K:W.Frag}{mg:Str->Option Value}{base:Heap}{CX:CXT}{j k:Nat}{f:Addr}{fd:FuncData}{ps:List Str}{sp:Sp}(F:FnOk P w K mg base CX j f fd ps sp)(h:j<=k):
  FnOk P w K mg base CX k f fd ps sp:=⟨F.len,λ A outer s H args us vs Q E hr=>F.run A outer s H args us vs Q E (hr.mono h)⟩
theorem FnOk.imp{k:Nat}{f:Addr}(F:FnOk P w K mg base CX k f fd ps sp)(h:∀ vs H Q E,sp' vs H Q E->sp vs H Q E):FnOk P w K mg base CX k f fd ps sp':=
 ⟨λ vs H Q E q=>F.len vs H Q E (h _ _ _ _ q),λ A outer s H args us vs Q E hr he hb hv hs=>F.run A outer s H args us vs Q E hr he hb hv (h _ _ _ _ hs)⟩
theorem Env0.make(e:Env0 P w K mg base A outer s H)(C:Addr)(us:List Value)(kw:List (Str × Value)):
  Env0 P w K mg base (A.under (.builtin "type.__call__" ⟨.ref C::us,kw⟩)) outer s H:=⟨by first | exact e.frames | (simpa [Around.under,Code.envs,Code.isFrame,pushEnvs] using e.frames),e.mod,e.bs,e.bsz,e.funs,e.frf,e.hok,e.bare⟩
theorem Env0.in1(e:Env0 P w K mg base A outer s H):
  Env0 P w K mg base A.in1 outer s H:=⟨e.frames,e.mod,e.bs,e.bsz,e.funs,e.frf,e.hok,e.bare⟩
theorem Inv.env0(I:Inv X pins σ H s):Env0 X.prog X.w X.K X.mg X.base X.A X.stack s H:=
 ⟨I.ok.frames,I.ok.mod,I.bs,Nat.le_trans I.ok.bsz I.sz,I.stack,I.stkFree,I.hok,I.bare⟩
theorem Inv.after{Q:VK}(I:Inv X pins σ H s)(h:CE X.stack X.prog X.w H s Q u s'):EP X pins σ Q u s':=by
 obtain ⟨v,H',os,bare,un,hok,r,q⟩:=h;obtain ⟨hh,g,d,t,os'⟩:=s';obtain rfl:os'=s.os:=os;exact ⟨v,H',I.call (h':=hh) (g':=g) (d':=d) (t':=t) (ch:=[]) un hok bare (λ b z=>absurd z (by simp)),r,q⟩
noncomputable def lA(sp:Sp)(dvs:List V)(E:XK)(t:TA):TE:=λ σ H Q=>t σ H λ vs H1=>sp (vs++dvs) H1 Q E
noncomputable def rQ(C:Addr)(m:Str)(sp:Sp)(dvs:List V)(E:XK)(ta:TE)(t:TA):TE:=λ σ H Q=>ta σ H λ x H1=>∃ a dx fs,x = .ref a/\H1 a=some (.ins C dx fs)/\fs.lookup m=none/\
 t σ H1 λ vs H2=>sp (x::(vs++dvs)) H2 Q E
noncomputable def yq(C:Addr)(sp:Sp)(dvs:List V)(E:XK)(t:TA):TE:=λ σ H Q=>t σ H λ vs H1=>∀ x dx,H1 x=none->H1 dx=none->dx≠x->
 sp (.ref x::(vs++dvs)) (upd (upd H1 dx (.own x)) x (.ins C dx [])) (λ v H2=>v = .non/\Q (.ref x) H2) E
noncomputable def Binds(K:W.Frag)(fd:FuncData)(ps:List Str)(ds:List Value):Prop:=
 ∀ (s:Shared) (us:List Value),K.In s.heap->(us++ds).length=ps.length->BindsTo s fd ⟨us,[]⟩ (ps.zip (us++ds))
theorem Binds.all(h:∀ us:List Value,us.length=ps.length->bindArgs fd ⟨us,[]⟩=pure (ps.zip us)):Binds K fd ps []:=λ s us _ hl=>by
 rw [List.append_nil] at hl ⊢;exact .of_eq (h us hl)
noncomputable def c9(CX:CXT)(X:Cx)(E:XK):Prop:=∀ (pins:List (Addr × Obj)) (σ:St) (H:Hp) (s:Shared) (e:Value) (s':Shared),Inv X pins σ H s->CX X.stack H s E e s'->X.xe e s'
section
variable {k:Nat} {f:Addr} {dvs:List V} {ds:List Value} {E:XK} {o:Expr} {t:TA}
theorem lg{Q:VK}(F:FnOk X.prog X.w X.K X.mg X.base CX k f fd ps sp)(hr:Room k X.A)(hb:Binds X.K fd ps ds)(hd:Vals dvs ds)(hx:c9 CX X E)(I:Inv X pins σ H s)(r:Vals vs us)(h:sp (vs++dvs) H Q E):wpAny (model X.prog X.w) X.A (call (.ref f) us) (EP X pins σ Q) X.xe s:=by
 have r2:Vals (vs++dvs) (us++ds):=r.append hd;have hl:(us++ds).length=ps.length:=by rw [← r2.length];exact F.len _ _ _ _ h
 refine wpAny_call (codeAny_mono (F.run X.A X.stack s H ⟨us,[]⟩ (us++ds) (vs++dvs) Q E hr I.env0 (hb s us I.kIn hl) r2 h) λ r s' hq=>?_);cases r with
 | error e=>exact hx pins σ H s e s' I hq
 | ok fl=>
  cases fl with
  | ret u=>exact I.after hq
  | next=>exact False.elim hq
  | brk=>exact False.elim hq
  | cont=>exact False.elim hq
theorem zhk(F:FnOk X.prog X.w X.K X.mg X.base CX k f fd ps sp)(hr:Room k X.A)(hg:Gl X x)(hm:X.mg x=some (.ref f))(hk:W.keepIn X.K (.ref f)=true)(hb:Binds X.K fd ps ds)(hd:Vals dvs ds)(hx:c9 CX X E)(ha:PA X (e::es) t)(hdb:(x == ("__debug__" : Str))=false:=by decide)(he:starEach (e::es) X.env=(false,eval e X.env)::starEach es X.env:=by rfl)(hpl:(backTo pos (starEach es X.env)).any (·.1)=false:=by rfl):
  PE X (.Call (.Name x p) (e::es) [] pos) (lA sp dvs E t):=by
 intro pins s σ H Q I h;refine wpAny_Call_Name_kw (gZ I hg hm ?_ hdb);refine W.callWith_K (h₀:=X.base) I.ok.mod.kin hk (thn (ha pos pins s σ H _ I h) λ us s1 ⟨vs,H1,I1,r,q⟩=>⟨I1.kIn,?_⟩) he hpl;exact lg F hr hb hd hx I1 r q
theorem bJ(he:PE X o ta)(c:Cls X.K C)(hm:iH X.K C m f)(F:FnOk X.prog X.w X.K X.mg X.base CX k f fd ps sp)(hr:Room k X.A)(hb:Binds X.K fd ps ds)(hd:Vals dvs ds)(hx:c9 CX X E)(ha:PA X (e::es) t)(hst:starEach (e::es) X.env=(false,eval e X.env)::starEach es X.env:=by rfl)(hpl:(backTo pos (starEach es X.env)).any (·.1)=false:=by rfl)(ht:eval (.Call (.Attribute o m apos) (e::es) [] pos) X.env=(do
   let ov ← eval o X.env
   standAt apos.atName
   let (f,first) ← holding [ov] (getMethod ov m pl)
   callWith pos f first (backTo pos (starEach (e::es) X.env)) (backToKw pos (keywordEach [] X.env))):=by rfl):
  PE X (.Call (.Attribute o m apos) (e::es) [] pos) (rQ C m sp dvs E ta t):=by
 intro pins s σ H Q I h;refine W.methodCall_KW (pl:=pl) (thn (he pins s σ H _ I h) λ u s1 ⟨x,H1,I1,rx,a,dx,fs,ex,ea,l,q⟩=>?_) ht;subst ex;obtain rfl:u=Value.ref a:=rx;refine nB I1 ea c hm l ?_;refine W.callWith_K (first:=[.ref a]) (h₀:=X.base) I.ok.mod.kin hm.kp (thn (ha pos pins s1 σ H1 _ I1 q) λ us s2 ⟨vs,H2,I2,r,q2⟩=>⟨I2.kIn,?_⟩) hst hpl;exact lg (us:=.ref a::us) (vs:=.ref a::vs) F hr hb hd hx I2 (.cons rfl r) q2
theorem c8(he:PE X o ta)(c:Cls X.K C)(hm:iH X.K C m f)(F:FnOk X.prog X.w X.K X.mg X.base CX k f fd ps sp)(hr:Room k X.A)(hb:Binds X.K fd ps ds)(hd:Vals dvs ds)(hx:c9 CX X E)(ht:eval (.Call (.Attribute o m apos) [] [] pos) X.env=(do
   let ov ← eval o X.env
   standAt apos.atName
   let (f,first) ← holding [ov] (getMethod ov m pl)
   callWith pos f first (backTo pos (starEach [] X.env)) (backToKw pos (keywordEach [] X.env))):=by rfl):
  PE X (.Call (.Attribute o m apos) [] [] pos) (rQ C m sp dvs E ta dQ):=by
 intro pins s σ H Q I h;refine W.methodCall_KW (pl:=pl) (thn (he pins s σ H _ I h) λ u s1 ⟨x,H1,I1,rx,a,dx,fs,ex,ea,l,q⟩=>?_) ht;subst ex;obtain rfl:u=Value.ref a:=rx;refine nB I1 ea c hm l ?_;exact W.callWith_K0 (first:=[.ref a]) I1.kIn hm.kp (lg (us:=[.ref a]) (vs:=[.ref a]) F hr hb hd hx I1 (.cons rfl .nil) q)
structure Mk (K:W.Frag) (C f:Addr):Prop where
 makes:W.makesIn K C=true
 init:W.findIn K (.ref C) "__init__" = some (some (.ref f))
 fn:W.isFn K (.ref f)=true
 kp:W.keepIn K (.ref C)=true
theorem w9{Q:VK}(M:Mk X.K C f)(F:FnOk X.prog X.w X.K X.mg X.base CX k f fd ps sp)(hr:Room (k+1) X.A)(hb:Binds X.K fd ps ds)(hd:Vals dvs ds)(hx:c9 CX X E)(I:Inv X pins σ H s)(r:Vals vs us)(h:∀ x dx,H x=none->H dx=none->dx≠x->sp (.ref x::(vs++dvs)) (upd (upd H dx (.own x)) x (.ins C dx [])) (λ v H2=>v = .non/\Q (.ref x) H2) E):
  wpAny (model X.prog X.w) X.A (call (.ref C) us) (EP X pins σ Q) X.xe s:=by
 have hq:=h (s.heap.objs.size+1) s.heap.objs.size (I.hok.fresh (Nat.le_succ _)) (I.hok.fresh (Nat.le_refl _)) (Nat.ne_of_lt (Nat.lt_succ_self _));have I2:=Inv.made (C:=C) I;have r2:Vals (V.ref (s.heap.objs.size+1)::(vs++dvs)) (Value.ref (s.heap.objs.size+1)::(us++ds)):=.cons rfl (r.append hd);have hl:(Value.ref (s.heap.objs.size+1)::us++ds).length=ps.length:=by
  have e:=r2.length;rw [F.len _ _ _ _ hq] at e;exact e.symm
 refine wpAny_call (zem (f:=f) I.kIn M.makes M.init (beq_iff_eq.mp M.fn) (codeAny_mono (F.run _ X.stack _ _ ⟨Value.ref (s.heap.objs.size+1)::us,[]⟩ (Value.ref (s.heap.objs.size+1)::(us++ds)) _ _ E (hr.make C us [])
  (I2.env0.make C us []) (hb _ (Value.ref (s.heap.objs.size+1)::us) I2.kIn hl) r2 hq) λ r s' hq'=>?_))
 cases r with
 | error e=>exact hx pins σ _ _ e s' I2 hq'
 | ok fl=>
  cases fl with
  | ret u=>
   obtain ⟨v,H',I3,rv,ev,q3⟩:=I2.after hq';subst ev;exact ⟨rv,⟨V.ref (s.heap.objs.size+1),H',I3,rfl,q3⟩⟩
  | next=>exact False.elim hq'
  | brk=>exact False.elim hq'
  | cont=>exact False.elim hq'
theorem jy(M:Mk X.K C f)(F:FnOk X.prog X.w X.K X.mg X.base CX k f fd ps sp)(hr:Room (k+1) X.A)(hg:Gl X x)(hm:X.mg x=some (.ref C))(hb:Binds X.K fd ps ds)(hd:Vals dvs ds)(hx:c9 CX X E)(ha:PA X (e::es) t)(hdb:(x == ("__debug__" : Str))=false:=by decide)(he:starEach (e::es) X.env=(false,eval e X.env)::starEach es X.env:=by rfl)(hpl:(backTo pos (starEach es X.env)).any (·.1)=false:=by rfl):
  PE X (.Call (.Name x p) (e::es) [] pos) (yq C sp dvs E t):=by
 intro pins s σ H Q I h;refine wpAny_Call_Name_kw (gZ I hg hm ?_ hdb);refine W.callWith_K (h₀:=X.base) I.ok.mod.kin M.kp (thn (ha pos pins s σ H _ I h) λ us s1 ⟨vs,H1,I1,r,q⟩=>⟨I1.kIn,?_⟩) he hpl;exact w9 M F hr hb hd hx I1 r q
theorem oF(M:Mk X.K C f)(F:FnOk X.prog X.w X.K X.mg X.base CX k f fd ps sp)(hr:Room (k+1) X.A)(hg:Gl X x)(hm:X.mg x=some (.ref C))(hb:Binds X.K fd ps ds)(hd:Vals dvs ds)(hx:c9 CX X E)(hdb:(x == ("__debug__" : Str))=false:=by decide):PE X (.Call (.Name x p) [] [] pos) (yq C sp dvs E dQ):=by
 intro pins s σ H Q I h;refine wpAny_Call_Name_kw (gZ I hg hm ?_ hdb);exact W.callWith_K0 I.kIn M.kp (w9 (us:=[]) M F hr hb hd hx I .nil h)
end
section
variable {k:Nat} {f:Addr} {ks:List Str} {E:XK} {o:Expr} {kws:List Keyword} {t tk:TA} {nm:Option Str}
variable {g:List Value->List Value->List Value} {gV:List V->List V->List V}
end
structure aB (N P:List Str) (sc:Scope):Prop where
 kind:sc.kind = .function
 co:sc.isCoroutine=false
 gen:sc.isGenerator=false
 nd:N.Nodup
 pre:N.take P.length=P
 par:∀ x∈P,sc.names.lookup x=some .local\/sc.names.lookup x=some .cell
 nofree:∀ y∈sc.names,y.2≠.free
theorem tF{kindOf:Str->Option NameKind}{x:Str}:∀ {binds:List (Str × Value)} {m:Str->Option Value},(∀ v,(x,v)∉binds)->bindL kindOf binds m x=m x
 | [],_,_=>rfl
 | (n,v)::r,m,h=>by
  unfold bindL;rw [tF λ w hw=>h w (bp _ hw)]
  split
  ·have:x≠n:=by rintro rfl;exact h v bB
   simp [this]
  ·rfl
theorem tD{kindOf:Str->Option NameKind}{x:Str}:∀ {binds:List (Str × Value)} {m:Str->Option Value},(∀ v,(x,v)∉binds)->bindC kindOf binds m x=m x
 | [],_,_=>rfl
 | (n,v)::r,m,h=>by
  unfold bindC;rw [tD λ w hw=>h w (bp _ hw)]
  split
  ·rfl
  ·have:x≠n:=by rintro rfl;exact h v bB
   simp [this]
theorem tE{kindOf:Str->Option NameKind}{x:Str}{v:Value}:∀ {P:List Str} {vs:List Value} {i:Nat} {m:Str->Option Value},P.Nodup->P[i]?=some x->vs[i]?=some v->kindOf x=some .local->
  bindL kindOf (P.zip vs) m x=some v
 | [],_,_,_,_,h,_,_=>by simp at h
 | _::_,[],_,_,_,_,h,_=>by simp at h
 | p::P,w::vs,0,m,nd,h1,h2,hk=>by
  simp at h1 h2;subst h1;subst h2;show bindL kindOf ((p,w)::P.zip vs) m p=_;unfold bindL;rw [tF λ v hv=>(List.nodup_cons.mp nd).1 (List.of_mem_zip hv).1,if_pos hk];simp
 | p::P,w::vs,i+1,m,nd,h1,h2,hk=>by
  show bindL kindOf ((p,w)::P.zip vs) m x=_;unfold bindL;exact tE (i:=i) (List.nodup_cons.mp nd).2 (by simpa using h1) (by simpa using h2) hk
theorem tz{kindOf:Str->Option NameKind}{x:Str}{v:Value}:∀ {P:List Str} {vs:List Value} {i:Nat} {m:Str->Option Value},P.Nodup->P[i]?=some x->vs[i]?=some v->kindOf x≠some .local->
  bindC kindOf (P.zip vs) m x=some v
 | [],_,_,_,_,h,_,_=>by simp at h
 | _::_,[],_,_,_,_,h,_=>by simp at h
 | p::P,w::vs,0,m,nd,h1,h2,hk=>by
  simp at h1 h2;subst h1;subst h2;show bindC kindOf ((p,w)::P.zip vs) m p=_;unfold bindC;rw [tD λ v hv=>(List.nodup_cons.mp nd).1 (List.of_mem_zip hv).1,if_neg hk];simp
 | p::P,w::vs,i+1,m,nd,h1,h2,hk=>by
  show bindC kindOf ((p,w)::P.zip vs) m x=_;unfold bindC;exact tz (i:=i) (List.nodup_cons.mp nd).2 (by simpa using h1) (by simpa using h2) hk
noncomputable def gk(N:List Str)(vs:List V):St:=vs.map some++List.replicate (N.length - vs.length) none
noncomputable def cX(CX:CXT)(P:Program)(w:World)(K:W.Frag)(mg:Str->Option Value)(base:Heap)(N:List Str)(qual:Str)(scope:Scope)(f:Addr)(cd:Value)(A:Around)(outer:List Env)(s:Shared)(H:Hp)(E:XK):Cx where
 prog:=P
 w:=w
 K:=K
 mg:=mg
 base:=base
 A:=A.deeper (envOfC qual scope s.heap.objs.size f cd)
 N:=N
 s₀:=s
 H₀:=H
 env:=envOfC qual scope s.heap.objs.size f cd
 outer:=outer
 stack:=envOfC qual scope s.heap.objs.size f cd::outer
 ex:=[]
 calm:=true
 fn:=λ _=>true
 pn:=[]
 xe:=λ e s'=>wpAny (model P w) (A.deeper (envOfC qual scope s.heap.objs.size f cd)) (leaving (envOfC qual scope s.heap.objs.size f cd) e) (λ _ s''=>CX outer H s E e s'') (λ e' s''=>CX outer H s E e' s'') s'
theorem ub(h:sc.names.lookup x=some .cell):∃ c,(cellsFrom n sc.names []).lookup x=some c:=by
 have q:=W.cellsFrom_some sc.names n [] (.inl h);exact Option.isSome_iff_exists.mp q
theorem zc7{f:Addr}{s1:Shared}{E:XK}(S:aB N ps scope)(hd:A.handled=none)(e0:Env0 P w K mg base A outer s H)(hl:vs.length=ps.length)(r:Vals vs us)(x:InCallC s s.heap.objs.size (bindL (envOfC qual scope s.heap.objs.size f cd).kindOf (ps.zip us) λ _=>none) (cellsFrom (s.heap.objs.size+1) scope.names []) (bindC (envOfC qual scope s.heap.objs.size f cd).kindOf (ps.zip us) λ _=>none) s1):
  Inv (cX CX P w K mg base N qual scope f cd A outer s H E) [] (gk N vs) H s1:=by
 have hpl:ps.length<=N.length:=by have:=congrArg List.length S.pre;rw [bc] at this;omega
 obtain ⟨h1,tk,rfl,hk⟩:=x.done;have noA:∀ b:Addr,b∉(cX CX P w K mg base N qual scope f cd A outer s H E).ex:=λ b z=>absurd (show b∈([]:List Addr) from z) (by simp);refine ⟨⟨e0.mod,S.kind,rfl,rfl,Nat.le_refl _,λ y z c h1 h2=>?_,λ y hy=>?_,λ y c _ h=>?_,λ _=>hd,Around.frames_deeper e0.frames,.inr ⟨rfl,rfl⟩,λ b z=>absurd z (noA b),e0.bs,e0.bsz,λ b _ _=>noA b,λ b z=>absurd z (noA b),e0.funs,e0.frf⟩,
  rfl,e0.bare,Un.kept hk,⟨_,x.toInCall.ns,λ i y v h1 h2 h3=>?_⟩,λ y c h=>⟨_,x.cell y c h⟩,e0.hok.fresh (Nat.le_refl _),λ y c h=>?_,λ p hp=>absurd (show p∈([]:List (Addr × Obj)) from hp) (by simp),e0.hok.kept hk,?_⟩
 ·exact name_of_addr x.apart (PySem.mem_of_lookup h1) (PySem.mem_of_lookup h2)
 ·have hy:scope.names.lookup y=some .cell\/scope.names.lookup y=some .free:=hy;rcases hy with hy | hy
  ·exact ub hy
  ·exact absurd rfl (S.nofree _ (PySem.mem_of_lookup hy))
 ·exact Nat.le_of_lt (x.above y c (PySem.mem_of_lookup h))
 ·have hi:i < vs.length:=by
   unfold gk at h2;by_cases hi:i < vs.length
   ·exact hi
   ·rw [List.getElem?_append_right (by simpa using hi)] at h2;rw [List.getElem?_replicate] at h2
    split at h2 <;> cases h2
  have ha:vs[i]?=some v:=by
   unfold gk at h2;rw [List.getElem?_append_left (by simpa using hi),aH] at h2;cases e:vs[i]? with
   | none=>rw [e] at h2;cases h2
   | some a=>rw [e] at h2;cases h2;rfl
  obtain ⟨u,hu,rv⟩:=r.get ha;have hp:ps[i]?=some y:=by
   rw [← S.pre,List.getElem?_take_of_lt (by omega)];exact h1
  have ndP:ps.Nodup:=by rw [← S.pre];exact S.nd.sublist (List.take_sublist _ _)
  refine ⟨u,rv,?_⟩;rcases S.par y (aS hp) with k | k
  ·exact .inl ⟨k,tE ndP hp hu k⟩
  ·obtain ⟨c,e⟩:=ub (n:=s.heap.objs.size+1) k;refine .inr ⟨.inl k,c,e,?_⟩;have q:=x.cell y c e;rw [tz ndP hp hu (by show scope.names.lookup y≠_;rw [k];decide)] at q;exact q
 ·exact e0.hok.fresh (Nat.le_of_lt (x.above y c (PySem.mem_of_lookup h)))
 ·unfold gk;show _=N.length;rw [aO,aj,List.length_replicate];omega
theorem uO{k:Nat}{f:Addr}{params:Arguments}{dV kV:Value}(lk:K.lookup f=some ⟨oc,od,.func (W.fnOf name qual params body scope dV kV doc pm an cdv ct),osl⟩)(hcd:W.codeIn K cdv qual=true)(S:aB N ps scope)(len:∀ vs H Q E,sp vs H Q E->vs.length=ps.length)(hbody:∀ (A:Around) (outer:List Env) (s:Shared) (H:Hp) (vs:List V) (Q:VK) (E:XK),Room k (A.deeper (envOfC qual scope s.heap.objs.size f cdv))->sp vs H Q E->
      ∃ t,PSs (cX CX P w K mg base N qual scope f cdv A outer s H E) body t/\t { nx:=λ _ H'=>Q .non H',rt:=Q } (gk N vs) H):
    FnOk P w K mg base CX (k+1) f (W.fnOf name qual params body scope dV kV doc pm an cdv ct) ps sp:=by
  refine ⟨len,λ A outer s H args us vs Q E hr e0 hb r hsp=>?_⟩;have hl:=len _ _ _ _ hsp;have KX:K.In s.heap:=e0.mod.kin.keeps λ b o e=>(e0.bs b o e).1;have lim:s.heap.NoLimit:=e0.mod.nolimit.keeps λ b o e=>(e0.bs b o e).1;have hkind:∀ y∈ps.zip us,scope.names.lookup y.1=some .local\/(scope.names.lookup y.1=some .cell/\((cellsFrom (s.heap.objs.size+1) scope.names []).lookup y.1).isSome=true):=λ ⟨n,v⟩ hy=>by
    rcases S.par n (List.of_mem_zip hy).1 with q | q
    · exact .inl q
    · exact .inr ⟨q,W.cellsFrom_some _ _ _ (.inl q)⟩
  refine codeAny_call_function hr.depth (KX _ _ lk) rfl S.co S.gen rfl (W.codeRec_of KX hcd) (hb _ _ _ _ ?_);refine wpAny_newFunctionEnv_cells S.kind hkind λ env he s1 x=>?_;subst he;refine ⟨lim.keeps x.toInCall.keep,codeAny_func ?_⟩;obtain ⟨t,ht,hq⟩:=hbody A outer s H vs Q E (hr.deeper _) hsp;have I:Inv (cX CX P w K mg base N qual scope f cdv A outer s H E) [] (gk N vs) H s1:=zc7 S hr.hd e0 hl r x;refine wpAny_mono (ht [] s1 (gk N vs) H _ I hq) (λ fl s' hs=>?_) λ e s' hs=>hs;have fin:∀ {σ':St} {H':Hp} {v:V} {u:Value},Inv (cX CX P w K mg base N qual scope f cdv A outer s H E) [] σ' H' s'->RelV v u->Q v H'->CE outer P w H s Q u s':=
    λ {σ' H' v u} J rv q=>⟨v,H',J.os,J.bare,J.base,J.hok,rv,q⟩
  cases fl with
  | ret u=>
    obtain ⟨v,σ',H',J,rv,q⟩:=hs;exact fin J rv q
  | next=>
    obtain ⟨σ',H',J,q⟩:=hs;exact fin (v:=V.non) (u:=Value.none) J rfl q
  | brk=>
    obtain ⟨_,_,_,q⟩:=hs;exact False.elim q
  | cont=>
    obtain ⟨_,_,_,q⟩:=hs;exact False.elim q
section
variable {t:TA} {id T:String} {r:List V->Hp->VK->Prop}
noncomputable def tCB(r:List V->Hp->VK->Prop)(t:TA):TE:=λ σ H Q=>t σ H λ vs H1=>r vs H1 Q
theorem aR(hc:CallR X (.builtin id) r)(hg:Gl X x)(hm:X.mg x=none)(hv:bootBuiltins x=some (.builtin id))(ha:PA X (e::es) t)(hn:x ≠ "__name__" := by decide)(hdb:(x == ("__debug__" : Str))=false:=by decide)(he:starEach (e::es) X.env=(false,eval e X.env)::starEach es X.env:=by rfl)(hpl:(backTo pos (starEach es X.env)).any (·.1)=false:=by rfl):PE X (.Call (.Name x p) (e::es) [] pos) (tCB r t):=by
 intro pins s σ H Q I h;refine wpAny_Call_Name_kw (fb I hg hm hv ?_ hn hdb);exact PyProof.Rows.callWith_builtin1 (thn (ha pos pins s σ H _ I h) λ us s1 ⟨vs,H1,I1,r1,q1⟩=>hc pins s1 σ H1 vs us Q I1 r1 q1) he hpl
theorem iV(hc:CallR X (.type T) r)(hg:Gl X x)(hm:X.mg x=none)(hv:bootBuiltins x=some (.type T))(ha:PA X (e::es) t)(hn:x ≠ "__name__" := by decide)(hdb:(x == ("__debug__" : Str))=false:=by decide)(he:starEach (e::es) X.env=(false,eval e X.env)::starEach es X.env:=by rfl)(hpl:(backTo pos (starEach es X.env)).any (·.1)=false:=by rfl):PE X (.Call (.Name x p) (e::es) [] pos) (tCB r t):=by
 intro pins s σ H Q I h;refine wpAny_Call_Name_kw (fb I hg hm hv ?_ hn hdb);exact PyProof.Rows.callWith_type1 (thn (ha pos pins s σ H _ I h) λ us s1 ⟨vs,H1,I1,r1,q1⟩=>hc pins s1 σ H1 vs us Q I1 r1 q1) he hpl
end
namespace HT
open PySem PyProof.Rows
section
open PySem.SeqAt
open PySem.AutoSeq1 (wpAny_loadPart')
open PySem.MeetsSeq PySem.MeetsSeq2 PySem.MeetsSeq3
end
noncomputable def sIx(n d:Nat):Option Int->Nat
 | none=>d
 | some v=>if v < 0 then (v+(n:Int)).toNat else min v.toNat n
theorem sIx_none(n d:Nat):sIx n d none=d:=rfl
theorem sIx_nat(n d k:Nat):sIx n d (some (k:Int))=min k n:=by
 show (if (k:Int) < 0 then ((k:Int)+(n:Int)).toNat else min (k:Int).toNat n)=min k n;rw [if_neg (by omega),Int.toNat_natCast]
end HT
noncomputable abbrev TO:=St->Hp->(Option Int->Hp->Prop)->Prop
noncomputable def PO(X:Cx)(e:Option Expr)(t:TO):Prop:=
 ∀ (pins:List (Addr × Obj)) (s:Shared) (σ:St) (H:Hp) (Q:Option Int->Hp->Prop),Inv X pins σ H s->t σ H Q->
  wpAny (model X.prog X.w) X.A (evalPart e X.env) (λ u s'=>∃ o H',Inv X pins σ H' s'/\IsPart u o/\Q o H') X.xe s
noncomputable def zjy:TO:=λ _ H Q=>Q none H
noncomputable def zjB(t:TE):TO:=λ σ H Q=>t σ H λ x H1=>∃ i,x = .int i/\Q (some i) H1
theorem kA  : ∀ {us:List Value},Vals (ns.map V.int) us->IntsAre us ns:=by
 induction ns with
 | nil=>intro us r;rw [List.map_nil] at r;cases r;exact .nil
 | cons n ns ih=>
  intro us r;rw [List.map_cons] at r;cases r with
  | cons r1 r2=>
   obtain ⟨t,e⟩:=r1;subst e;exact .cons n t (ih r2)
section
variable {lo hi:Option Expr} {tl th:TO}
theorem iY:PO X none zjy:=by
 intro pins s σ H Q I h;rw [evalPart_none];exact aG ⟨none,H,I,.none,h⟩
theorem eI(h:PE X e te):PO X (some e) (zjB te):=by
 intro pins s σ H Q I hw;rw [evalPart_some];refine thn (h pins s σ H _ I hw) λ u s1 ⟨x,H1,I1,r1,q1⟩=>?_;obtain ⟨i,rfl,q⟩:=q1;obtain ⟨t,rfl⟩:=r1;exact ⟨some i,H1,I1,.int i t,q⟩
noncomputable def SlR(X:Cx)(r:V->Option Int->Option Int->Hp->VK->Prop):Prop:=
 ∀ (pins:List (Addr × Obj)) (s:Shared) (σ:St) (H:Hp) (x:V) (v vl vu:Value) (lo hi:Option Int) (sl:Addr) (Q:VK),Inv X pins σ H s->RelV x v->s.heap.IsSliceOf sl vl vu .none->IsPart vl lo->IsPart vu hi->r x lo hi H Q->
  ∃ T id,typeLookup (.type T) "__getitem__" = pure (some (.builtin id))/\s.TypeIs v T/\wpAny (model X.prog X.w) X.A (getItem v (.ref sl)) (EP X pins σ Q) X.xe s
theorem SlR.or{r r':V->Option Int->Option Int->Hp->VK->Prop}(h:SlR X r)(h':SlR X r'):SlR X (λ x lo hi H Q=>r x lo hi H Q\/r' x lo hi H Q):=by
 intro pins s σ H x v vl vu lo hi sl Q I rx hs pl pu q;rcases q with q | q
 ·exact h pins s σ H x v vl vu lo hi sl Q I rx hs pl pu q
 ·exact h' pins s σ H x v vl vu lo hi sl Q I rx hs pl pu q
noncomputable def tSl(r:V->Option Int->Option Int->Hp->VK->Prop)(te:TE)(tl th:TO):TE:=λ σ H Q=>te σ H λ x H1=>tl σ H1 λ l H2=>th σ H2 λ u H3=>r x l u H3 Q
theorem gg{r:V->Option Int->Option Int->Hp->VK->Prop}(hr:SlR X r)(he:PE X e te)(hl:PO X lo tl)(hu:PO X hi th):PE X (.Subscript e (.Slice lo hi none p2) pos) (tSl r te tl th):=by
 intro pins s σ H Q I h;refine Subscript_ (thn (he pins s σ H _ I h) λ v s1 ⟨x,H1,I1,r1,q1⟩=>?_);refine wpAny_Slice (thn (hl pins s1 σ H1 _ I1 q1) λ vl s2 ⟨l,H2,I2,pl,q2⟩=>thn (hu pins s2 σ H2 _ I2 q2) λ vu s3 ⟨u,H3,I3,pu,q3⟩=>?_);rw [evalPart_none];refine aG ?_;have I4:Inv X pins σ H3 { s3 with heap:=s3.heap.push { cls:=.type "slice", data:=.fields #[vl,vu,.none] } }:=I3.kept (t':=s3.toks) λ b ob q=>aY _ q;obtain ⟨T,id,hT,ht,hg⟩:=hr pins { s3 with heap:=s3.heap.push { cls:=.type "slice", data:=.fields #[vl,vu,.none] } } σ H3 x v vl vu l u s3.heap.objs.size Q I4 r1 (Heap.IsSliceOf.new ..) pl pu q3;show wpAny (model X.prog X.w) X.A (subscriptTail e (.Slice lo hi none p2) v (.ref s3.heap.objs.size)) (EP X pins σ Q) X.xe { s3 with heap:=s3.heap.push { cls:=.type "slice", data:=.fields #[vl,vu,.none] } };exact tail_any (ops:=[.ref s3.heap.objs.size,v]) ht hT hg (by with_unfolding_all rfl)
noncomputable def cK(xs:List V)(lo hi:Option Int):List V:=(xs.drop (HT.sIx xs.length 0 lo)).take (HT.sIx xs.length xs.length hi - HT.sIx xs.length 0 lo)
theorem zbi(xs:List V)(lo hi:Option Int):(cK xs lo hi).length<=xs.length:=by
 unfold cK;rw [bc,List.length_drop];omega
end
noncomputable def ixN(n:Nat)(i:Int):Option Nat:=if 0<=i then (if i < n then some i.toNat else none) else if -(n:Int)<=i then some (i+n).toNat else none
noncomputable def atI(xs:List α)(i:Int):Option α:=(ixN xs.length i).bind λ j=>xs[j]?
theorem kB{i:Int}(h:ixN n i=some j):seqIndex? i n=some j/\j < n/\-(n:Int)<=i/\i < n:=by
 unfold ixN at h;by_cases h0:0<=i
 ·rw [if_pos h0] at h;by_cases h1:i < n
  ·rw [if_pos h1] at h;have e:i.toNat=j:=Option.some.inj h;exact ⟨by rw [seqIndex_of h0 h1,e],by omega,by omega,h1⟩
  ·rw [if_neg h1] at h;cases h
 ·rw [if_neg h0] at h;by_cases h1 : -(n:Int)<=i
  ·rw [if_pos h1] at h;have e:(i+n).toNat=j:=Option.some.inj h;exact ⟨by rw [seqIndex_neg (by omega) h1,e],by omega,h1,by omega⟩
  ·rw [if_neg h1] at h;cases h
theorem mG{xs:List α}{i:Int}{v:α}(h:atI xs i=some v):∃ j,seqIndex? i xs.length=some j/\xs[j]?=some v/\j < xs.length/\-(xs.length:Int)<=i/\i < xs.length:=by
 unfold atI at h;cases e:ixN xs.length i with
 | none=>rw [e] at h;cases h
 | some j=>
  rw [e] at h;obtain ⟨h1,h2,h3,h4⟩:=kB e;exact ⟨j,h1,h,h2,h3,h4⟩
theorem dU{xs:List α}{v:α}(h:xs[j]?=some v):atI xs (j:Int)=some v:=by
 have hj:j < xs.length:=(al_gs.mp h).1;have e:ixN xs.length (j:Int)=some j:=by
  unfold ixN;rw [if_pos (by omega),if_pos (by omega)];simp
 unfold atI;rw [e];exact h
theorem sX(xs:List α)(v:α):atI (xs++[v]) (-1)=some v:=by
 have hl:(xs++[v]).length=xs.length+1:=by simp
 have e:ixN (xs++[v]).length (-1)=some xs.length:=by
  unfold ixN;rw [hl,if_neg (by decide),if_pos (by omega)]
  congr 1
  omega
 unfold atI;rw [e];show (xs++[v])[xs.length]?=some v;simp
noncomputable def zZ(b:Expr):Prop:=∀ o i,subscripted b false o i=operate [o,i] (getItem o i)
noncomputable def IxR(X:Cx)(r:R2):Prop:=
 ∀ (value slice:Expr) (pins:List (Addr × Obj)) (s:Shared) (σ:St) (H:Hp) (x y:V) (v u:Value) (Q:VK),Inv X pins σ H s->RelV x v->RelV y u->r x y H Q->
  subscripted slice false v u=operate [v,u] (getItem v u)->wpAny (model X.prog X.w) X.A (subscriptTail value slice v u) (EP X pins σ Q) X.xe s
noncomputable def MtR(X:Cx)(id:String)(r:V->List V->Hp->VK->Prop):Prop:=
 ∀ (pins:List (Addr × Obj)) (s:Shared) (σ:St) (H:Hp) (x:V) (xs:List V) (v:Value) (us:List Value) (Q:VK),Inv X pins σ H s->RelV x v->Vals xs us->r x xs H Q->
  wpAny (model X.prog X.w) X.A (call (.builtin id) (v::us)) (EP X pins σ Q) X.xe s
section
variable {a b:Expr} {tb:TE}
theorem IxR.or{r:R2}(h:IxR X r)(h':IxR X r'):IxR X (λ x y H Q=>r x y H Q\/r' x y H Q):=by
 intro value slice pins s σ H x y v u Q I rx ry q hs;rcases q with q | q
 ·exact h value slice pins s σ H x y v u Q I rx ry q hs
 ·exact h' value slice pins s σ H x y v u Q I rx ry q hs
theorem MtR.or{id:String}{r':V->List V->Hp->VK->Prop}(h:MtR X id r)(h':MtR X id r'):MtR X id (λ x xs H Q=>r x xs H Q\/r' x xs H Q):=by
 intro pins s σ H x xs v us Q I rx rs q;rcases q with q | q
 ·exact h pins s σ H x xs v us Q I rx rs q
 ·exact h' pins s σ H x xs v us Q I rx rs q
theorem bj{r:R2}(hr:IxR X r)(ha:PE X a ta)(hb:PE X b tb)(hs:zZ b):PE X (.Subscript a b pos) (tOp r ta tb):=by
 intro pins s σ H Q I h;exact Subscript_ (mT ha hb I h λ v u s2 x y H2 I2 rx ry q=>hr a b pins s2 σ H2 x y v u Q I2 rx ry q (hs _ _))
noncomputable def wS(K:W.Frag):R2:=λ x y H Q=>∃ p xs i v,x = .ref p/\y = .int i/\SqL K H p xs/\atI xs i=some v/\Q v H
noncomputable def wT(K:W.Frag):R2:=λ x y H Q=>∃ p xs i v,x = .ref p/\y = .int i/\SqT K H p xs/\atI xs i=some v/\Q v H
noncomputable def zhQ:R2:=λ x y H Q=>∃ z i c,x = .str z/\y = .int i/\z.length<=sizeLine/\atI z.cps.toList i=some c/\Q (.str ⟨#[c]⟩) H
theorem vg:IxR X (wS X.K):=by
 intro value slice pins s σ H x y v u Q I rx ry h hs;obtain ⟨p,xs,i,z,rfl,rfl,hq,he,q⟩:=h;cases rx;obtain ⟨t,rfl⟩:=ry;obtain ⟨its,r,pl,hz⟩:=I.list hq;obtain ⟨j,h1,h2,h3,h4,h5⟩:=mG he;obtain ⟨w,ew,rw'⟩:=r.get h2;have hl:=r.length;have hn:=gx;have fin:EP X pins σ Q w s:=⟨z,H,I,rw',q⟩
 by_cases h0:0<=i
 ·have hj:i.toNat=j:=by
   rw [seqIndex_of h0 h5] at h1;exact Option.some.inj h1
  exact item_listR pl.isList h0 (by omega) (by rw [hj];simpa using ew) fin hs
 ·have hj:(i+(its.toArray.size:Int)).toNat=j:=by
   rw [seqIndex_neg (by omega) h4] at h1;rw [a9,← hl];exact Option.some.inj h1
  exact subscriptTail_builtinR (x:=w) pl.isList.typeIs slot_list_getitem.lookup
   (wpAny_getItem_list_neg (Q:=λ r s'=>r=w/\EP X pins σ Q r s') pl.isList (by omega) (by rw [a9] <;> omega) (by omega) (by rw [hj];simpa using ew) ⟨rfl,fin⟩) hs
theorem vi:IxR X (wT X.K):=by
 intro value slice pins s σ H x y v u Q I rx ry h hs;obtain ⟨p,xs,i,z,rfl,rfl,hq,he,q⟩:=h;cases rx;obtain ⟨t,rfl⟩:=ry;obtain ⟨its,r,pl,hz⟩:=I.tuple hq;obtain ⟨j,h1,h2,h3,h4,h5⟩:=mG he;obtain ⟨w,ew,rw'⟩:=r.get h2;have hl:=r.length;have hn:=gx;have fin:EP X pins σ Q w s:=⟨z,H,I,rw',q⟩
 exact subscriptTail_builtinR (x:=w) pl.typeIs slot_tuple_getitem.lookup
  (getItem_tuple (j:=j) (Q:=λ r s'=>r=w/\EP X pins σ Q r s') pl (by omega) (by omega) (by rw [a9,← hl];exact h1) (by simpa using ew) ⟨rfl,fin⟩) hs
theorem zdj:IxR X zhQ:=by
 intro value slice pins s σ H x y v u Q I rx ry h hs;obtain ⟨z,i,c,rfl,rfl,hz,he,q⟩:=h;obtain ⟨t,rfl⟩:=rx;obtain ⟨t',rfl⟩:=ry;obtain ⟨j,h1,h2,h3,h4,h5⟩:=mG he;have hl:z.cps.toList.length=z.length:=by simp [Str.length]
 rw [hl] at h1 h4 h5;have hn:=gx;exact tail_any (typeIs_str s z t) slot_str_getitem.lookup (getItem_str (c:=c) (by
  have e1:decide (i < -(2 ^ 63:Int))=false:=aK (by omega);have e2:decide (i ≥ 2 ^ 63)=false:=aK (by omega);rw [e1,e2,Bool.or_false]) (by rw [h1];simpa using h2) ⟨.str ⟨#[c]⟩,H,I.tok _,⟨_,rfl⟩,q⟩) hs
theorem zeo(its:List Value)(n j:Nat)(u:Value):Obj.mapSeq (·.setIfInBounds j u) { cls:=.type "list", data:=.seq its.toArray n }={ cls:=.type "list", data:=.seq (its.set j u).toArray n }:=by
 simp [Obj.mapSeq]
theorem Inv.lst{p:Addr}{xs:List V}(I:Inv X pins σ H s)(h:H p=some (.lst xs)):
  ∃ (its:List Value) (n:Nat),Vals xs its/\s.heap.get? p=some { cls:=.type "list", data:=.seq its.toArray n }/\xs.length<=sizeLine:=by
 obtain ⟨z,its,n,r,e⟩:=I.hok p _ h;exact ⟨its,n,r,e,z⟩
theorem Inv.lstUpd{p:Addr}{xs:List V}{n':Nat}{f:Obj->Obj}(I:Inv X pins σ H s)(h:H p=some (.lst xs))(ho:s.heap.get? p=some { cls:=.type "list", data:=.seq its.toArray n })(hf:f { cls:=.type "list", data:=.seq its.toArray n }={ cls:=.type "list", data:=.seq its'.toArray n' })(r:Vals ys its')(hz:ys.length<=sizeLine)(t:Nat):
  Inv X pins σ (upd H p (.lst ys)) { s with heap:=s.heap.update p f,toks:=t }:=by
 have e:(s.heap.update p f).get? p=some { cls:=.type "list", data:=.seq its'.toArray n' }:=by
  rw [Heap.get?_update_self f ho (by rw [hf] <;> rfl),hf]
 refine I.write (x:=p) (e:=p) (by rw [h];trivial) (.inl rfl) (λ b u hb q=>(Heap.get?_update_other _ _ (Ne.symm hb)).trans q) ⟨_,e⟩ ?_;exact ⟨hz,its',n',r,e⟩
noncomputable def zh2:V->V->V->Hp->(Hp->Prop)->Prop:=λ o i v H Q=>∃ p xs k j,o = .ref p/\i = .int k/\H p=some (.lst xs)/\ixN xs.length k=some j/\Q (upd H p (.lst (xs.set j v)))
theorem zi7:sP X zh2:=by
 intro pins s σ H o i v ov iv u Q I ro ri rv h;obtain ⟨p,xs,k,j,rfl,rfl,hp,hj,q⟩:=h;cases ro;obtain ⟨t,rfl⟩:=ri;obtain ⟨its,n,r,ho,hz⟩:=I.lst hp;obtain ⟨h1,h2,h3,h4⟩:=kB hj;have hl:=r.length;have hn:=gx;have I':Inv X pins σ (upd H p (.lst (xs.set j v))) { s with heap:=s.heap.update p (Obj.mapSeq (·.setIfInBounds j u)) }:=
  I.lstUpd hp ho (zeo its n j u) (r.set rv j) (by rw [List.length_set];exact hz) s.toks
 by_cases h0:0<=k
 ·have hk:k.toNat=j:=by
   rw [seqIndex_of h0 h4] at h1;exact Option.some.inj h1
  exact W.ki_setAt ho h0 (by omega) (by rw [a9,← hl];exact h4) (by rw [hk];exact ⟨_,I',q⟩)
 ·have hk:(k+(its.toArray.size:Int)).toNat=j:=by
   rw [seqIndex_neg (by omega) h3] at h1;rw [a9,← hl];exact Option.some.inj h1
  exact W.ki_setBack ho (by omega) (by rw [a9,← hl];exact h3) (by omega) (by rw [hk];exact ⟨_,I',q⟩)
theorem ud(n:Nat)(i:Int):(if (1:Int) > 0 then max 0 (min (if i < 0 then i+n else i) (n:Int)) else max (-1) (min (if i < 0 then i+n else i) ((n:Int) - 1)))=((HT.sIx n 0 (some i):Nat):Int):=by
 rw [if_pos (by decide)];show _=((if i < 0 then (i+(n:Int)).toNat else min i.toNat n:Nat):Int)
 by_cases h:i < 0
 ·rw [if_pos h,if_pos h,Int.min_eq_left (by omega),Int.max_comm];exact (Int.ofNat_toNat _).symm
 ·rw [if_neg h,if_neg h];obtain ⟨k,rfl⟩:=Int.eq_ofNat_of_zero_le (Int.not_lt.mp h);rw [Int.toNat_natCast];rcases Nat.le_total k n with z | z
  ·rw [Nat.min_eq_left z,Int.min_eq_left (Int.ofNat_le.mpr z)];exact Int.max_eq_right (Int.natCast_nonneg _)
  ·rw [Nat.min_eq_right z,Int.min_eq_right (Int.ofNat_le.mpr z)];exact Int.max_eq_right (Int.natCast_nonneg _)
theorem zja(lo hi:Option Int)(n:Nat):(sliceBounds lo hi none n).1=((HT.sIx n 0 lo:Nat):Int)/\(sliceBounds lo hi none n).2.1=((HT.sIx n n hi:Nat):Int)/\(sliceBounds lo hi none n).2.2=1:=by
 refine ⟨?_,?_,rfl⟩
 ·cases lo with
  | none=>rfl
  | some i=>exact ud n i
 ·cases hi with
  | none=>rfl
  | some i=>exact ud n i
theorem zi9(its:List Value)(lo hi:Option Int):slicePick its.toArray lo hi none=((its.drop (HT.sIx its.length 0 lo)).take (HT.sIx its.length its.length hi - HT.sIx its.length 0 lo)).toArray:=by
 obtain ⟨h1,h2,h3⟩:=zja lo hi its.toArray.size;unfold slicePick;rw [h1,h2,h3];simp only [sliceRange_one,pick_run,a9] <;> rfl
noncomputable def wW(K:W.Frag):V->Option Int->Option Int->Hp->VK->Prop:=λ x lo hi H Q=>∃ a xs,x = .ref a/\SqL K H a xs/\∀ p,H p=none->Q (.ref p) (upd H p (.lst (cK xs lo hi)))
theorem zi8:SlR X (wW X.K):=by
 intro pins s σ H x v vl vu lo hi sl Q I rx hs pl pu h;obtain ⟨a,xs,rfl,hx,q⟩:=h;cases rx;obtain ⟨its,r,ht,hz⟩:=I.list hx;have hlen:=r.length;refine ⟨"list", _,slot_list_getitem.lookup,ht.isList.typeIs,?_⟩;refine wpAny_getItem_list_slice ht.isList hs pl pu .none (by simp) ?_ (by rw [a9] <;> omega);rw [zi9,← hlen];refine ⟨.ref s.heap.objs.size,_,I.laid (t':=s.toks) (o:=.lst (cK xs lo hi)) (λ b ob q=>aY _ q) (Nat.le_refl _) ?_,rfl,q _ (I.hok.fresh (Nat.le_refl _))⟩;exact ⟨Nat.le_trans (zbi xs lo hi) hz,_,0,(r.drop (HT.sIx xs.length 0 lo)).take (HT.sIx xs.length xs.length hi - HT.sIx xs.length 0 lo),Heap.get?_push_size _ rfl⟩
noncomputable def bN:V->Bool
 | .non=>true
 | .bl _=>true
 | .int _=>true
 | .str _=>true
 | _=>false
noncomputable def eqV:V->V->Bool
 | .non,.non=>true
 | .bl a,.bl b=>a == b
 | .bl a,.int b=>(if a then 1 else 0) == b
 | .int a,.bl b=>a == (if b then 1 else 0)
 | .int a,.int b=>a == b
 | .str a,.str b=>a == b
 | _,_=>false
theorem uu{x:V}(ry:RelV y u)(rx:RelV x v)(fy:bN y=true)(fx:bN x=true):SeqAt.EqAt A s u v (eqV y x):=by
 cases y with
 | non=>
  cases ry;cases x with
  | non=>cases rx;exact SeqAt.EqAt.same _
  | bl b=>cases rx;exact SeqAt.EqAt.none_bool b
  | int b=>obtain ⟨t,rfl⟩:=rx;exact SeqAt.EqAt.none_int b t
  | str b=>obtain ⟨t,rfl⟩:=rx;exact SeqAt.EqAt.none_str b t
  | _=>exact absurd (show false=true from fx) bz
 | bl a=>
  cases ry;cases x with
  | non=>cases rx;exact SeqAt.EqAt.bool_none a
  | bl b=>cases rx;exact SeqAt.EqAt.bool_bool a b
  | int b=>obtain ⟨t,rfl⟩:=rx;exact SeqAt.EqAt.bool_int a b t
  | str b=>obtain ⟨t,rfl⟩:=rx;exact SeqAt.EqAt.bool_str a b t
  | _=>exact absurd (show false=true from fx) bz
 | int a=>
  obtain ⟨t',rfl⟩:=ry;cases x with
  | non=>cases rx;exact SeqAt.EqAt.int_none a t'
  | bl b=>cases rx;exact SeqAt.EqAt.int_bool a t' b
  | int b=>obtain ⟨t,rfl⟩:=rx;exact SeqAt.EqAt.int_int a t' b t
  | str b=>obtain ⟨t,rfl⟩:=rx;exact SeqAt.EqAt.int_str a t' b t
  | _=>exact absurd (show false=true from fx) bz
 | str a=>
  obtain ⟨t',rfl⟩:=ry;cases x with
  | non=>cases rx;exact SeqAt.EqAt.str_none a t'
  | bl b=>cases rx;exact SeqAt.EqAt.str_bool a t' b
  | int b=>obtain ⟨t,rfl⟩:=rx;exact SeqAt.EqAt.str_int a t' b t
  | str b=>obtain ⟨t,rfl⟩:=rx;exact SeqAt.EqAt.str_str a t' b t
  | _=>exact absurd (show false=true from fx) bz
 | _=>exact absurd (show false=true from fy) bz
noncomputable def eqU(x:V)(u:Value):Bool:=match u with
 | .none=>eqV .non x
 | .bool b=>eqV (.bl b) x
 | .int i _=>eqV (.int i) x
 | .str z _=>eqV (.str z) x
 | _=>false
theorem jj{x:V}(r:RelV y u)(f:bN y=true):eqU x u=eqV y x:=by
 cases y with
 | non=>cases r;rfl
 | bl b=>cases r;rfl
 | int i=>obtain ⟨t,rfl⟩:=r;rfl
 | str z=>obtain ⟨t,rfl⟩:=r;rfl
 | _=>exact absurd (show false=true from f) bz
theorem jf{x:V}:∀ {xs:List V} {us:List Value},Vals xs us->xs.all bN=true->us.any (eqU x)=xs.any λ y=>eqV y x
 | _,_,.nil,_=>rfl
 | y::xs,u::us,.cons r t,f=>by
  rw [List.all_cons,Bool.and_eq_true] at f;rw [List.any_cons,List.any_cons,jj r f.1,jf t f.2]
theorem gy{A:Around}{s:Shared}{x:V}{v:Value}(rx:RelV x v)(fx:bN x=true):∀ {xs:List V} {us:List Value},Vals xs us->xs.all bN=true->∀ u∈us,SeqAt.EqAt A s u v (eqU x u)
 | _,_,.nil,_=>λ u hu=>by cases hu
 | y::xs,u::us,.cons r t,f=>λ u' hu=>by
  rw [List.all_cons,Bool.and_eq_true] at f;rcases al_mc.mp hu with rfl | hu
  ·rw [jj r f.1];exact uu r rx f.1 fx
  ·exact gy rx fx t f.2 u' hu
noncomputable def inV(x:V)(xs:List V):Bool:=xs.any λ y=>eqV y x
noncomputable def rIn(K:W.Frag)(neg:Bool):R2:=λ x y H Q=>∃ p xs,y = .ref p/\(SqL K H p xs\/SqT K H p xs)/\bN x=true/\xs.all bN=true/\Q (.bl (if neg then !inV x xs else inV x xs)) H
theorem zg7:OpR X (compareOp .In) (rIn X.K false):=by
 intro pins s σ H x y v u Q I rx ry h;obtain ⟨p,xs,rfl,hq,fx,fs,q⟩:=h;cases ry;rcases hq with hq | hq
 ·obtain ⟨its,r,pl,hz⟩:=I.list hq;refine SeqAt.in_listAt (eqU x) pl.isList (λ w hw=>gy rx fx r fs w (by simpa using hw)) ⟨.bl _,H,I,rfl,?_⟩;rw [show its.toArray.any (eqU x)=its.any (eqU x) by simp,jf r fs];exact q
 ·obtain ⟨its,r,pl,hz⟩:=I.tuple hq;refine SeqAt.in_tupleAt (eqU x) pl (λ w hw=>gy rx fx r fs w (by simpa using hw)) ⟨.bl _,H,I,rfl,?_⟩;rw [show its.toArray.any (eqU x)=its.any (eqU x) by simp,jf r fs];exact q
theorem wu:OpR X (compareOp .NotIn) (rIn X.K true):=by
 intro pins s σ H x y v u Q I rx ry h;obtain ⟨p,xs,rfl,hq,fx,fs,q⟩:=h;cases ry;rcases hq with hq | hq
 ·obtain ⟨its,r,pl,hz⟩:=I.list hq;refine SeqAt.notIn_listAt (eqU x) pl.isList (λ w hw=>gy rx fx r fs w (by simpa using hw)) ⟨.bl _,H,I,rfl,?_⟩;rw [show its.toArray.any (eqU x)=its.any (eqU x) by simp,jf r fs];exact q
 ·obtain ⟨its,r,pl,hz⟩:=I.tuple hq;refine SeqAt.notIn_tupleAt (eqU x) pl (λ w hw=>gy rx fx r fs w (by simpa using hw)) ⟨.bl _,H,I,rfl,?_⟩;rw [show its.toArray.any (eqU x)=its.any (eqU x) by simp,jf r fs];exact q
theorem tX:CallR X (.builtin "len") (λ xs H Q=>∃ p ys,xs=[.ref p]/\(SqL X.K H p ys\/SqT X.K H p ys)/\Q (.int ys.length) H):=by
 intro pins s σ H xs us Q I r h;obtain ⟨p,ys,rfl,hq,q⟩:=h;obtain ⟨u,rfl,rx⟩:=d7 r;cases rx;have hn:=gx;rcases hq with hq | hq
 ·obtain ⟨its,r',pl,hz⟩:=I.list hq;have hlen:=r'.length;exact Calls.call_len_list pl.isList (by simp only [a9] <;> omega) ⟨.int ys.length,H,I.tok _,⟨s.toks+1,by rw [a9,hlen]⟩,q⟩
 ·obtain ⟨its,r',pl,hz⟩:=I.tuple hq;have hlen:=r'.length;exact len_tuple pl (by simp only [a9] <;> omega) ⟨.int ys.length,H,I.tok _,⟨s.toks+1,by rw [a9,hlen]⟩,q⟩
theorem kf:CallR X (.builtin "len") (λ xs H Q=>∃ z,xs=[.str z]/\z.length<=sizeLine/\Q (.int z.length) H):=by
 intro pins s σ H xs us Q I r h;obtain ⟨z,rfl,hz,q⟩:=h;obtain ⟨u,rfl,t,rfl⟩:=d7 r;have hn:=gx;exact len_str (by omega) ⟨.int z.length,H,I.tok _,⟨_,rfl⟩,q⟩
theorem CallR.or{f:Value}{r r':List V->Hp->VK->Prop}(h:CallR X f r)(h':CallR X f r'):CallR X f (λ xs H Q=>r xs H Q\/r' xs H Q):=by
 intro pins s σ H xs us Q I rs q;rcases q with q | q
 ·exact h pins s σ H xs us Q I rs q
 ·exact h' pins s σ H xs us Q I rs q
theorem zaW:CallR X (.type "list") (λ xs H Q=>∃ p ys,xs=[.ref p]/\(SqL X.K H p ys\/SqT X.K H p ys)/\∀ l,H l=none->Q (.ref l) (upd H l (.lst ys))):=by
 intro pins s σ H xs us Q I r h;obtain ⟨p,ys,rfl,hq,q⟩:=h;obtain ⟨u,rfl,rx⟩:=d7 r;cases rx;have fin:∀ (its:List Value),Vals ys its->ys.length<=sizeLine->∀ (h':Heap) (c':Nat),(∀ b o',s.heap.get? b=some o'->h'.get? b=some o')->
   h'.get? s.heap.objs.size=some { cls:=.type "list", dict:=none,data:=.seq its.toArray c',slots:=#[] }->EP X pins σ Q (.ref s.heap.objs.size) { s with heap:=h' }:=λ its r' hz h' c' kp e=>
  ⟨.ref s.heap.objs.size,_,I.laid (t':=s.toks) kp (Nat.le_refl _) (show ObjOk X.prog X.w _ h' _ (.lst ys) from ⟨hz,its,c',r',e⟩),rfl,q _ (I.hok.fresh (Nat.le_refl _))⟩
 rcases hq with hq | hq
 ·obtain ⟨its,r',pl,hz⟩:=I.list hq;have hlen:=r'.length;obtain ⟨o,ho,hc,n,hd⟩:=pl.isList;exact call_list_seq p (.inl rfl) ho hc hd (λ h' c' kp e=>fin its r' hz h' c' kp e) (by simp only [a9] <;> omega)
 ·obtain ⟨its,r',pl,hz⟩:=I.tuple hq;have hlen:=r'.length;obtain ⟨o,ho,hc,n,hd⟩:=pl;exact call_list_seq p (.inr rfl) ho hc hd (λ h' c' kp e=>fin its r' hz h' c' kp e) (by simp only [a9] <;> omega)
noncomputable def tyV(K:W.Frag)(T:String)(x:V)(H:Hp):Prop:=match x with
 | .str _=>T = "str"
 | .int _=>T = "int"
 | .ref p=>(T = "list" /\ ∃ xs,SqL K H p xs)\/(T = "tuple" /\ ∃ o,K.lookup p=some o/\o.cls = .type "tuple" /\ o.dict=none)\/
   (T = "dict" /\ ((∃ kvs,H p=some (.dK kvs))\/∃ kvs,H p=some (.dT kvs)))\/(T = "set" /\ ∃ S n,H p=some (.set S n))
 | _=>False
theorem yF{T:String}{x:V}(I:Inv X pins σ H s)(r:RelV x v)(ty:tyV X.K T x H):
  s.TypeIs v T/\∀ a,v = .ref a->∃ ob,s.heap.get? a=some ob/\ob.dict=none:=by
 cases x with
 | str z=>
  obtain ⟨t,rfl⟩:=r;cases (show T = "str" from ty);exact ⟨typeIs_str s z t,λ _ e=>nomatch e⟩
 | int i=>
  obtain ⟨t,rfl⟩:=r;cases (show T = "int" from ty);exact ⟨typeIs_int s i t,λ _ e=>nomatch e⟩
 | ref p=>
  cases r;rcases ty with ⟨rfl,xs,hq⟩ | ⟨rfl,o,hk,hc,hd⟩ | ⟨rfl,hk⟩ | ⟨rfl,S,n,hk⟩
  ·obtain ⟨its,_,pl,_⟩:=I.list hq;refine ⟨pl.isList.typeIs,λ a e=>?_⟩;cases e;obtain ⟨o,n,e,c,hd,_⟩:=pl;exact ⟨o,e,hd⟩
  ·refine ⟨⟨o,I.kIn p o hk,hc⟩,λ a e=>?_⟩;cases e;exact ⟨o,I.kIn _ o hk,hd⟩
  ·have z:∃ o,s.heap.get? p=some o/\o.ExactDict:=by
    rcases hk with ⟨kvs,hk⟩ | ⟨kvs,hk⟩
    ·obtain ⟨_,_,_,_,o,_,_,e,ex,_⟩:=I.hok p _ hk;exact ⟨o,e,ex⟩
    ·obtain ⟨_,_,_,_,o,_,_,e,ex,_⟩:=I.hok p _ hk;exact ⟨o,e,ex⟩
   obtain ⟨o,e,ex⟩:=z;refine ⟨⟨o,e,ex.1⟩,λ a e2=>?_⟩;cases e2;exact ⟨o,e,ex.2.1⟩
  ·obtain ⟨o,_,_,_,e,ex,_⟩:=I.hok p _ hk;refine ⟨⟨o,e,ex.1⟩,λ a e2=>?_⟩;cases e2;exact ⟨o,e,ex.2.1⟩
 | _=>exact False.elim ty
noncomputable def zjn(K:W.Frag)(T:String)(r:V->List V->Hp->VK->Prop)(to:TE):TE:=λ σ H Q=>to σ H λ x H1=>tyV K T x H1/\r x [] H1 Q
noncomputable def tBM(K:W.Frag)(T:String)(r:V->List V->Hp->VK->Prop)(to:TE)(t:TA):TE:=λ σ H Q=>to σ H λ x H1=>tyV K T x H1/\t σ H1 λ xs H2=>r x xs H2 Q
variable {o:Expr} {t:TA} {T id:String}
theorem zhj(pa:PlainAttrs T)(slot:Slot T name id)(hty:typeOf (.builtin id)=pure (.type "method_descriptor"))(hm:MtR X id r)(ho:PE X o to)(hbase:attributeBase o name X.env (eval o X.env)=eval o X.env:=by rfl)(hline:(apos.endLine == cpos.line)=true:=by rfl):PE X (.Call (.Attribute o name apos) [] [] cpos) (zjn X.K T r to):=by
 intro pins s σ H Q I h;refine wpAny_Call_method0_late hbase hline (thn (ho pins s σ H _ I h) λ v s1 ⟨x,H1,I1,r1,ty,q1⟩=>?_);obtain ⟨h1,h2⟩:=yF I1 r1 ty;exact ⟨T,id,pa,slot,hty,h1,h2,Calls.callWith_builtin rfl (PySem.evalArgs_none (hm pins s1 σ H1 x [] v [] Q I1 r1 .nil q1))⟩
theorem oC(pa:PlainAttrs T)(slot:Slot T name id)(hty:typeOf (.builtin id)=pure (.type "method_descriptor"))(hm:MtR X id r)(ho:PE X o to)(ha:PA X (e::es) t)(hbase:attributeBase o name X.env (eval o X.env)=eval o X.env:=by rfl)(hfew:((backTo cpos (starEach (e::es) X.env)).all (λ x=>!x.1) && (backToKw cpos (keywordEach [] X.env)).all (λ x=>x.1.isSome)
   && decide ((e::es).length+([]:List Keyword).length+(if ([]:List Keyword).isEmpty then 0 else 1) < 30))=true:=by rfl)(hline:(apos.endLine == cpos.line)=true:=by rfl)(hs:starEach (e::es) X.env=(false,eval e X.env)::starEach es X.env:=by rfl)(hplain:(backTo cpos (starEach es X.env)).any (·.1)=false:=by rfl):
  PE X (.Call (.Attribute o name apos) (e::es) [] cpos) (tBM X.K T r to t):=by
 intro pins s σ H Q I h;refine wpAny_Call_method_late hbase hfew hline rfl (thn (ho pins s σ H _ I h) λ v s1 ⟨x,H1,I1,r1,ty,q1⟩=>?_);obtain ⟨h1,h2⟩:=yF I1 r1 ty;refine ⟨T,id,pa,slot,hty,h1,h2,?_⟩;have hA:=ha cpos pins s1 σ H1 _ I1 q1;rw [hs] at hA ⊢;refine Calls.callWith_builtin (by show (false || (backTo cpos (starEach es X.env)).any (·.1))=false;rw [hplain] <;> rfl) (Calls.evalArgs_plain ?_);exact thn hA λ us s2 ⟨vs,H2,I2,r2,q2⟩=>hm pins s2 σ H2 x vs v us Q I2 r1 r2 q2
end
noncomputable def MtM(X:Cx)(id:String)(r:V->List V->Hp->VK->Prop):Prop:=
 ∀ (pins:List (Addr × Obj)) (s:Shared) (σ:St) (H:Hp) (x:V) (xs:List V) (v:Value) (us:List Value) (Q:VK),Inv X pins σ H s->RelV x v->Vals xs us->r x xs H Q->
  wpAny (model X.prog X.w) X.A (call (.builtin id) (v::us)) (EP X pins σ Q) X.xe s
theorem Vals.one:∀ {x:V} {us:List Value},Vals [x] us->∃ u,us=[u]/\RelV x u
 | _,_,.cons r .nil=>⟨_,rfl,r⟩
theorem Vals.two{x y:V}{us:List Value}(h:Vals [x,y] us):∃ u v,us=[u,v]/\RelV x u/\RelV y v:=rX h
theorem Vals.zero:∀ {us:List Value},Vals [] us->us=[]
 | _,.nil=>rfl
theorem Vals.dropLast{xs:List V}(h:Vals xs us):Vals xs.dropLast us.dropLast:=by
 induction h with
 | nil=>exact .nil
 | cons r t ih=>
  cases t with
  | nil=>exact .nil
  | cons q t'=>exact .cons r ih
theorem Vals.eraseIdx:∀ {xs:List V} {us:List Value} (i:Nat),Vals xs us->Vals (xs.eraseIdx i) (us.eraseIdx i)
 | _,_,_,.nil=>.nil
 | _,_,0,.cons _ t=>t
 | _,_,i+1,.cons r t=>.cons r (Vals.eraseIdx i t)
theorem Vals.reverse{xs:List V}(h:Vals xs us):Vals xs.reverse us.reverse:=by
 induction h with
 | nil=>exact .nil
 | cons r t ih=>rw [List.reverse_cons,List.reverse_cons];exact Vals.append ih (.cons r .nil)
theorem Vals.rep{xs:List V}{us:List Value}(h:Vals xs us):∀ k:Nat,Vals (List.replicate k xs).flatten (List.replicate k us).flatten
 | 0=>.nil
 | k+1=>by
  rw [List.replicate_succ,List.replicate_succ,List.flatten_cons,List.flatten_cons];exact Vals.append h (Vals.rep h k)
theorem vp{α:Type}:∀ (l:List α) (i:Nat),(l.eraseIdx i).length<=l.length
 | [],_=>Nat.le_refl _
 | _::_,0=>Nat.le_succ _
 | _::r,i+1=>Nat.succ_le_succ (vp r i)
theorem uQ(its:List Value):∀ (k:Nat) (acc:List Value),
  List.foldl (λ x1 x2=>x1++x2) acc.toArray (List.replicate k its.toArray)=(acc++(List.replicate k its).flatten).toArray
 | 0,acc=>by simp
 | k+1,acc=>by
  have e:acc.toArray++its.toArray=(acc++its).toArray:=by simp
  have e2:(acc++its)++(List.replicate k its).flatten=acc++(List.replicate (k+1) its).flatten:=by
   rw [List.replicate_succ,List.flatten_cons,List.append_assoc]
  rw [← e2,← uQ its k (acc++its),← e,List.replicate_succ,List.foldl_cons]
section
variable {l:Addr} {xs zs:List V}
theorem Inv.lset{f:Array Value->Array Value}(I:Inv X pins σ H s)(hH:H l=some (.lst xs))(e:s.heap.get? l=some { cls:=.type "list", data:=.seq its.toArray n })(hf:f its.toArray=its'.toArray)(hv:Vals ys its')(hz:ys.length<=sizeLine):
  Inv X pins σ (upd H l (.lst ys)) { s with heap:=s.heap.update l (Obj.mapSeq f),toks:=t' }:=by
 have q:=PySem.IsL.update e f;rw [hf] at q;refine I.write (x:=l) (e:=l) (by rw [hH];exact trivial) (.inl rfl) (λ b' u hb hu=>(Heap.get?_update_other s.heap (Obj.mapSeq f) (Ne.symm hb)).trans hu) ⟨_,q⟩ ?_;exact ⟨hz,its',_,hv,q⟩
theorem Inv.lnew(I:Inv X pins σ H s)(hv:Vals ys its)(hz:ys.length<=sizeLine):
  Inv X pins σ (upd H s.heap.objs.size (.lst ys)) { s with heap:=s.heap.push { cls:=.type "list", data:=.seq its.toArray },toks:=t' }:=
 I.laid (λ _ _ q=>aY _ q) (Nat.le_refl _) ⟨hz,its,0,hv,Heap.get?_push_size _ rfl⟩
theorem Inv.fresh(I:Inv X pins σ H s):H s.heap.objs.size=none:=I.hok.fresh (Nat.le_refl _)
theorem Inv.lstM(I:Inv X pins σ H s)(hH:H l=some (.lst xs)):xs.length<=sizeLine/\∃ (its:List Value) (n:Nat),Vals xs its/\xs.length=its.length/\s.heap.get? l=some { cls:=.type "list", data:=.seq its.toArray n }:=by
 obtain ⟨z,its,n,r,e⟩:=I.hok l _ hH;exact ⟨z,its,n,r,r.length,e⟩
theorem wc(h:n<=sizeLine):Builtin.List.listTooLong n=false:=by
 unfold Builtin.List.listTooLong;exact aK (by omega)
end
noncomputable def zhL:V->List V->Hp->VK->Prop:=λ x vs H Q=>∃ l xs y,x = .ref l/\vs=[y]/\H l=some (.lst xs)/\xs.length < sizeLine/\Q .non (upd H l (.lst (xs++[y])))
theorem f9:MtM X "list.append" zhL:=by
 intro pins s σ H x vs v us Q I rx rv h;obtain ⟨l,xs,y,rfl,rfl,hH,hz,q⟩:=h;cases rx;obtain ⟨u,rfl,ru⟩:=rv.one;obtain ⟨z,its,n,r,hl,e⟩:=I.lstM hH;refine call_meets F.slot_list_append ⟨_,e,rfl⟩ F.entry_list_append (F.args_list_append_2 _ _) (PySem.list_append l its.toArray n u (by rw [a9];omega)) ⟨e,?_⟩;refine ⟨.non,_,I.lset (its':=its++[u]) hH e (by simp) (r.append (.cons ru .nil)) ?_,rfl,q⟩;rw [aO,cn];omega
noncomputable def zhM:V->List V->Hp->VK->Prop:=λ x vs H Q=>∃ l b xs zs,x = .ref l/\vs=[.ref b]/\H l=some (.lst xs)/\H b=some (.lst zs)/\xs.length+zs.length<=sizeLine/\Q .non (upd H l (.lst (xs++zs)))
theorem vJ:MtM X "list.extend" zhM:=by
 intro pins s σ H x vs v us Q I rx rv h;obtain ⟨l,b,xs,zs,rfl,rfl,hH,hB,hz,q⟩:=h;cases rx;obtain ⟨u,rfl,ru⟩:=rv.one;cases ru;obtain ⟨z,its,n,r,hl,e⟩:=I.lstM hH;obtain ⟨z2,its2,n2,r2,hl2,e2⟩:=I.lstM hB;have hsz:its.toArray.size+its2.toArray.size<=sizeLine:=by rw [a9,a9];omega
 have hlong:¬ (!its.toArray.isEmpty && Builtin.List.listTooLong (its.toArray.size+its2.toArray.size))=true:=by
  rw [wc hsz,Bool.and_false];exact bz
 refine call_meets F.slot_list_extend ⟨_,e,rfl⟩ F.entry_list_extend (F.args_list_extend_2 _ _)
  (AutoSeq1.list_extend_list_list_0 l its.toArray n b its2.toArray n2 hlong (by rw [a9];omega) (by omega)) ⟨e,e2,?_⟩
 refine ⟨.non,_,I.lset (its':=its++its2) hH e (by simp) (r.append r2) ?_,rfl,q⟩;rw [aO];omega
noncomputable def zhZ:V->List V->Hp->VK->Prop:=λ x vs H Q=>∃ l xs i k y,x = .ref l/\vs=[.int i]/\H l=some (.lst xs)/\-(2 ^ 63)<=i/\i < 2 ^ 63/\seqIndex? i xs.length=some k/\xs[k]?=some y/\Q y (upd H l (.lst (xs.eraseIdx k)))
theorem vK:MtM X "list.pop" zhZ:=by
 intro pins s σ H x vs v us Q I rx rv h;obtain ⟨l,xs,i,k,y,rfl,rfl,hH,h1,h2,hk,hy,q⟩:=h;cases rx;obtain ⟨u,rfl,ru⟩:=rv.one;obtain ⟨t,rfl⟩:=ru;obtain ⟨z,its,n,r,hl,e⟩:=I.lstM hH;obtain ⟨w,hw,rw'⟩:=r.get hy;refine call_meets F.slot_list_pop ⟨_,e,rfl⟩ F.entry_list_pop (F.args_list_pop_2 _ _)
  (MeetsSeq.list_pop_at l its.toArray n i t k w (fitsIndex_both h1 h2) (by rw [a9,← hl];exact hk) (by rw [← Array.getElem?_toList];exact hw) (by rw [a9];omega)) ⟨e,?_⟩
 refine ⟨y,_,I.lset (its':=its.eraseIdx k) hH e ?_ (r.eraseIdx k) ?_,rw',q⟩
 ·show its.toArray.eraseIdxIfInBounds k=(its.eraseIdx k).toArray;rw [List.eraseIdxIfInBounds_toArray]
 ·have:=vp xs k;omega
noncomputable def wR:R2:=λ x y H Q=>∃ l b xs zs,x = .ref l/\y = .ref b/\H l=some (.lst xs)/\H b=some (.lst zs)/\xs.length+zs.length<=sizeLine/\∀ p,H p=none->Q (.ref p) (upd H p (.lst (xs++zs)))
theorem fD:OpR X (binaryOp .Add) wR:=by
 intro pins s σ H x y v u Q I rx ry h;obtain ⟨l,b,xs,zs,rfl,rfl,hH,hB,hz,q⟩:=h;cases rx;cases ry;obtain ⟨z,its,n,r,hl,e⟩:=I.lstM hH;obtain ⟨z2,its2,n2,r2,hl2,e2⟩:=I.lstM hB;refine PySem.P.add_list e e2 ?_ (by rw [a9,a9];omega);have ea:its.toArray++its2.toArray=(its++its2).toArray:=by simp
 rw [ea];exact ⟨.ref _,_,I.lnew (t':=s.toks) (r.append r2) (by rw [aO];omega),rfl,q _ I.fresh⟩
noncomputable def zh0:R2:=λ x y H Q=>∃ l k xs,x = .ref l/\y = .int k/\H l=some (.lst xs)/\-(2 ^ 63)<=k/\k < 2 ^ 63/\xs.length * k.toNat<=sizeLine/\
 ∀ p,H p=none->Q (.ref p) (upd H p (.lst (List.replicate k.toNat xs).flatten))
theorem vq(xs:List α)(k:Nat):(List.replicate k xs).flatten.length=k * xs.length:=by
 induction k with
 | zero=>simp
 | succ k ih=>rw [List.replicate_succ,List.flatten_cons,aO,ih,Nat.succ_mul,Nat.add_comm]
theorem zg8:OpR X (binaryOp .Mult) zh0:=by
 intro pins s σ H x y v u Q I rx ry h;obtain ⟨l,k,xs,rfl,rfl,hH,h1,h2,hz,q⟩:=h;cases rx;obtain ⟨t,rfl⟩:=ry;obtain ⟨z,its,n,r,hl,e⟩:=I.lstM hH;have hlen:its.toArray.size * k.toNat<=sizeLine:=by rw [a9,← hl];exact hz
 have hcap:¬ its.toArray.size * k.toNat > (2 ^ 63 - 1) / 8:=by
  have:(sizeLine:Nat)<=(2 ^ 63 - 1) / 8:=by decide
  omega
 have hfit:¬ (!Builtin.List.listFitsIndex k)=true:=by
  rw [fitsIndex_both h1 h2];exact bz
 have hlong:¬ Builtin.List.listTooLong (its.toArray.size * k.toNat)=true:=by
  rw [wc hlen];exact bz
 have hnew:List.foldl (λ x1 x2=>x1++x2) #[] (List.replicate (if its.toArray.isEmpty=true then 0 else k.toNat) its.toArray)=(List.replicate k.toNat its).flatten.toArray:=by
  have f0:∀ m:Nat,List.foldl (λ x1 x2=>x1++x2) #[] (List.replicate m its.toArray)=(List.replicate m its).flatten.toArray:=λ m=>by
   have:=uQ its m [];rw [List.nil_append] at this;exact this
  rw [f0];cases its with
  | nil=>simp
  | cons a r'=>rw [if_neg (by simp)]
 refine wpAny_binaryOp_repeat_ref (T := "list") (U := "int") (by decide) ⟨_,e,rfl⟩ (λ s'=>typeIs_int s' k t) noFill_list_mul F.fills_int_mul F.slot_int_rmul repeat_list F.slot_int_index.lookup
  (call_meets F.slot_int_rmul (typeIs_int s k t) F.entry_int_rmul (F.args_int_rmul_2 _ _) (int___rmul___int_list k t l its.toArray n)
   ⟨e,rfl,⟨_,e,rfl⟩,call_meets F.slot_list_mul ⟨_,e,rfl⟩ F.entry_list_mul (F.args_list_mul_2 _ _) (AutoListH.list___mul___list_int_3 l its.toArray n k t hfit hcap hlong) ⟨e,?_⟩⟩)
 rw [hnew];exact ⟨.ref _,_,I.lnew (t':=s.toks) (r.rep k.toNat) (by rw [vq,Nat.mul_comm];exact hz),rfl,q _ I.fresh⟩
section
variable [DecidableEq κ]
noncomputable def ba(kvs:List (κ × V))(k:κ):Option V:=(kvs.find? λ kv=>decide (kv.1=k)).map (·.2)
noncomputable def cC(kvs:List (κ × V))(k:κ)(v:V):List (κ × V):=
 if (kvs.any λ kv=>decide (kv.1=k))=true then kvs.map (λ kv=>if kv.1=k then (kv.1,v) else kv) else kvs++[(k,v)]
noncomputable def eB(kvs:List (κ × V))(k:κ):List (κ × V):=kvs.filter λ kv=>decide (kv.1≠k)
theorem iu{p:κ × V}{r:List (κ × V)}{k:κ}(e:p.1=k):ba (p::r) k=some p.2:=by simp [ba,List.find?_cons,e]
theorem fL{p:κ × V}{r:List (κ × V)}{k:κ}(e:¬ p.1=k):ba (p::r) k=ba r k:=by simp [ba,List.find?_cons,e]
theorem lF(k:κ):∀ kvs:List (κ × V),(kvs.any λ kv=>decide (kv.1=k))=(ba kvs k).isSome
 | []=>rfl
 | p::r=>by
  rw [List.any_cons];by_cases e:p.1=k
  ·simp only [iu e,aN e,Bool.true_or,Option.isSome_some]
  ·rw [fL e,aK e,Bool.false_or];exact lF k r
theorem nH(kvs:List (κ × V))(k:κ)(v:V):(cC kvs k v).length<=kvs.length+1:=by
 unfold cC
 split
 ·rw [aj];omega
 ·rw [aO,List.length_cons,List.length_nil];omega
theorem k9{kvs:List (κ × V)}{k:κ}(v:V)(h:ba kvs k=none):cC kvs k v=kvs++[(k,v)]:=by
 unfold cC;rw [lF,h];exact if_neg (by decide)
theorem RelO.isSome_eq{o:Option V}{u:Option Value}(r:RelO o u):o.isSome=u.isSome:=by
 cases o with
 | none=>cases u with
  | none=>rfl
  | some _=>exact (show False from r).elim
 | some _=>cases u with
  | none=>exact (show False from r).elim
  | some _=>rfl
theorem RelO.getD{o:Option V}{u:Option Value}{d:V}{d':Value}(r:RelO o u)(rd:RelV d d'):RelV (o.getD d) (u.getD d'):=by
 cases o with
 | none=>cases u with
  | none=>exact rd
  | some _=>exact (show False from r).elim
 | some _=>cases u with
  | none=>exact (show False from r).elim
  | some _=>exact r
theorem KV.val{kvs:List (κ × V)}{vs:List (κ × Value)}(r:KV kvs vs)(k:κ):RelO (ba kvs k) (valueAt vs k):=by
 unfold KV at r;induction r with
 | nil=>exact True.intro
 | @cons p q ps qs h t ih=>
  obtain ⟨h1,h2⟩:=h;by_cases e:p.1=k
  ·have e':q.1=k:=h1.symm.trans e;have b:valueAt (q::qs) k=some q.2:=by simp [valueAt,List.find?_cons,e']
   rw [iu e,b];exact h2
  ·have e':¬ q.1=k:=λ z=>e (h1.trans z);have b:valueAt (q::qs) k=valueAt qs k:=by simp [valueAt,List.find?_cons,e']
   rw [fL e,b];exact ih
theorem KV.any{kvs:List (κ × V)}{vs:List (κ × Value)}(r:KV kvs vs)(k:κ):(kvs.any λ kv=>decide (kv.1=k))=vs.any λ kv=>decide (kv.1=k):=by
 unfold KV at r;induction r with
 | nil=>rfl
 | cons h t ih=>rw [List.any_cons,List.any_cons,ih,h.1]
theorem KV.repl{kvs:List (κ × V)}{vs:List (κ × Value)}(r:KV kvs vs)(k:κ)(ry:RelV y u):
  KV (kvs.map λ kv=>if kv.1=k then (kv.1,y) else kv) (vs.map λ kv=>if kv.1=k then (kv.1,u) else kv):=by
 unfold KV at r ⊢;induction r with
 | nil=>exact .nil
 | @cons p q ps qs h t ih=>
  rw [List.map_cons,List.map_cons];refine .cons ?_ ih;obtain ⟨h1,h2⟩:=h;by_cases e:p.1=k
  ·rw [if_pos e,if_pos (h1.symm.trans e)];exact ⟨h1,ry⟩
  ·rw [if_neg e,if_neg (λ z=>e (h1.trans z))];exact ⟨h1,h2⟩
theorem KV.put{kvs:List (κ × V)}{vs:List (κ × Value)}(r:KV kvs vs)(k:κ)(ry:RelV y u):KV (cC kvs k y) (stored vs k u):=by
 unfold cC stored;rw [r.any k];by_cases e:(vs.any λ kv=>decide (kv.1=k))=true
 ·rw [if_pos e,if_pos e];exact r.repl k ry
 ·rw [if_neg e,if_neg e];exact Paired.snoc r ⟨rfl,ry⟩
theorem KV.drop{kvs:List (κ × V)}{vs:List (κ × Value)}(r:KV kvs vs)(k:κ):KV (eB kvs k) (without vs k):=by
 unfold KV at r ⊢;unfold eB without;induction r with
 | nil=>exact .nil
 | @cons p q ps qs h t ih=>
  obtain ⟨h1,h2⟩:=h;rw [List.filter_cons,List.filter_cons];by_cases e:p.1=k
  ·have a:¬ decide (p.1≠k)=true:=by simp [e]
   have b:¬ decide (q.1≠k)=true:=by simp [h1.symm.trans e]
   rw [if_neg a,if_neg b];exact ih
  ·have e':¬ q.1=k:=λ z=>e (h1.trans z);have a:decide (p.1≠k)=true:=by simp [e]
   have b:decide (q.1≠k)=true:=by simp [e']
   rw [if_pos a,if_pos b];exact .cons ⟨h1,h2⟩ ih
theorem KV.keys{kvs:List (κ × V)}{vs:List (κ × Value)}(r:KV kvs vs):kvs.map (·.1)=vs.map (·.1):=by
 unfold KV at r;induction r with
 | nil=>rfl
 | cons h t ih=>rw [List.map_cons,List.map_cons,ih,h.1]
theorem KV.length{kvs:List (κ × V)}{vs:List (κ × Value)}(r:KV kvs vs):kvs.length=vs.length:=Paired.length r
theorem ut(kvs:List (κ × V))(k:κ):(eB kvs k).length<=kvs.length:=List.length_filter_le _ _
end
theorem fB{k:Key}(r:RelV (kV k) u):(bY P w).is k u=true:=by
 cases k with
 | inl i=>cases i with
  | none=>cases (show u=Value.none from r);rfl
  | some i=>obtain ⟨t,e⟩:=(show ∃ t,u=Value.int i t from r);subst e;exact zeE P w i t
 | inr x=>obtain ⟨t,e⟩:=(show ∃ t,u=Value.str x t from r);subst e;exact zeF P w x t
theorem vf{P:Program}{w:World}:∀ {ks:List Key} {us:List Value},Vals (ks.map kV) us->ItemsAre (bY P w) ks us
 | [],_,r=>by rw [List.map_nil] at r;cases r;exact .nil
 | k::ks,_,r=>by
  rw [List.map_cons] at r;cases r with
  | cons h t=>exact .cons (fB h) (vf t)
noncomputable abbrev KT(H:Hp):List (List Key × V)->List (List Key × Addr × Value)->Prop:=Paired λ p q=>p.1=q.1/\H q.2.1=some (.tup (p.1.map kV))/\RelV p.2 q.2.2
theorem KT.val{kvs:List (List Key × V)}(r:KT H kvs xs)(k:List Key):RelO (ba kvs k) ((atKey xs k).map (·.2)):=by
 induction r with
 | nil=>exact True.intro
 | @cons p q ps qs h t ih=>
  obtain ⟨h1,_,h2⟩:=h;by_cases e:p.1=k
  ·have e':q.1=k:=h1.symm.trans e;have b:atKey (q::qs) k=some q.2:=by simp [atKey,List.find?_cons,e']
   rw [iu e,b];exact h2
  ·have e':¬ q.1=k:=λ z=>e (h1.trans z);have b:atKey (q::qs) k=atKey qs k:=by simp [atKey,List.find?_cons,e']
   rw [fL e,b];exact ih
theorem KT.repl{kvs:List (List Key × V)}(r:KT H kvs xs)(k:List Key)(ry:RelV y u):
  KT H (kvs.map λ kv=>if kv.1=k then (kv.1,y) else kv) (xs.map (putAt k u)):=by
 induction r with
 | nil=>exact .nil
 | @cons p q ps qs h t ih=>
  rw [List.map_cons,List.map_cons];refine .cons ?_ ih;obtain ⟨h1,h2,h3⟩:=h;unfold putAt;by_cases e:p.1=k
  ·rw [if_pos e,if_pos (h1.symm.trans e)];exact ⟨h1,h2,ry⟩
  ·rw [if_neg e,if_neg (λ z=>e (h1.trans z))];exact ⟨h1,h2,h3⟩
theorem KT.put{kvs:List (List Key × V)}(r:KT H kvs xs)(k:List Key)(hb:H b=some (.tup (k.map kV)))(ry:RelV y u):
  KT H (cC kvs k y) (storedH xs k b u):=by
 have e:(kvs.any λ kv=>decide (kv.1=k))=(atKey xs k).isSome:=by
  rw [lF,(r.val k).isSome_eq,Option.isSome_map]
 unfold cC storedH;rw [e];by_cases q:(atKey xs k).isSome=true
 ·rw [if_pos q,if_pos q];exact r.repl k ry
 ·rw [if_neg q,if_neg q];exact Paired.snoc r ⟨rfl,hb,ry⟩
theorem KT.keeps{kvs:List (List Key × V)}(r:KT H kvs xs)(ht:∀ b ys,H b=some (.tup ys)->H' b=some (.tup ys)):KT H' kvs xs:=
 Paired.mapP r λ _ _ z=>⟨z.1,ht _ _ z.2.1,z.2.2⟩
theorem wZ{u:HO}(ok:HOk P w H h)(e:Rd H a u):ObjOk P w H h a u:=e.ok ok
theorem fT(ok:HOk P w H h)(e:Rd H a (.dK kvs)):kvs.length<=sizeLine/\(a == sysModules)=false/\∃ vs,KV kvs vs/\h.DictOf (bY P w) a vs:=
 show ObjOk P w H h a (.dK kvs) from wZ ok e
theorem gR(ok:HOk P w H h)(e:H a=some (.dK kvs)):kvs.length<=sizeLine/\(a == sysModules)=false/\∃ vs,KV kvs vs/\h.DictOf (bY P w) a vs:=fT ok (.inl e)
theorem iQ{ks:List Key}(ok:HOk P w H h)(e:H a=some (.tup (ks.map kV))):(tupleKind (bY P w)).is h ks a:=by
 obtain ⟨_,its,r,o,h1,h2,n,h3⟩:=(show ObjOk P w H h a (.tup (ks.map kV)) from ok a _ e)
 exact ⟨o,its.toArray,n,h1,h2,h3,by simpa using vf r⟩
theorem gU{kvs:List (List Key × V)}(ok:HOk P w H h)(e:Rd H a (.dT kvs)):kvs.length<=sizeLine/\(a == sysModules)=false/\
  ∃ xs,KT H kvs xs/\h.DictOfH (tupleKind (bY P w)) a xs:=by
 obtain ⟨z,y,xs,r,o,es,ep,h1,h2,h3,h4,h5⟩:=(show ObjOk P w H h a (.dT kvs) from wZ ok e)
 refine ⟨z,y,xs,r,o,es,ep,h1,h2,h3,h4,λ x hx=>?_,h5⟩;have all:∀ {l:List (List Key × V)} {m:List (List Key × Addr × Value)},KT H l m->∀ x∈m,(tupleKind (bY P w)).is h x.1 x.2.1:=by
  intro l m q;induction q with
  | nil=>intro x hx;exact nomatch hx
  | @cons p q ps qs hq t ih=>
   intro x hx;rcases al_mc.mp hx with e | hx
   ·subst e;exact iQ ok (by rw [← hq.1];exact hq.2.1)
   ·exact ih x hx
 exact all r x hx
theorem zbz{kvs:List (List Key × V)}(ok:HOk P w H h)(e:H a=some (.dT kvs)):kvs.length<=sizeLine/\(a == sysModules)=false/\
  ∃ xs,KT H kvs xs/\h.DictOfH (tupleKind (bY P w)) a xs:=gU ok (.inl e)
noncomputable def DGet(H:Hp)(a:Addr)(y:V)(r:Option V):Prop:=
 (∃ kvs k,Rd H a (.dK kvs)/\y=kV k/\r=ba kvs k)\/∃ kvs k b,Rd H a (.dT kvs)/\y = .ref b/\H b=some (.tup (k.map kV))/\r=ba kvs k
noncomputable def DPut(H:Hp)(a:Addr)(y v:V)(H':Hp):Prop:=
 (∃ kvs k,H a=some (.dK kvs)/\y=kV k/\kvs.length < sizeLine/\H'=upd H a (.dK (cC kvs k v)))\/
 ∃ kvs k b,H a=some (.dT kvs)/\y = .ref b/\H b=some (.tup (k.map kV))/\kvs.length < sizeLine/\H'=upd H a (.dT (cC kvs k v))
theorem DGet.k{H:Hp}{a:Addr}{kvs:List (Key × V)}{k:Key}(e:H a=some (.dK kvs)):DGet H a (kV k) (ba kvs k):=.inl ⟨kvs,k,.inl e,rfl,rfl⟩
theorem DGet.t{kvs:List (List Key × V)}{k:List Key}(e:H a=some (.dT kvs))(eb:H b=some (.tup (k.map kV))):DGet H a (.ref b) (ba kvs k):=.inr ⟨kvs,k,b,.inl e,rfl,eb,rfl⟩
theorem DPut.k{H:Hp}{a:Addr}{kvs:List (Key × V)}{k:Key}{v:V}(e:H a=some (.dK kvs))(hl:kvs.length < sizeLine):DPut H a (kV k) v (upd H a (.dK (cC kvs k v))):=.inl ⟨kvs,k,e,rfl,hl,rfl⟩
theorem DPut.t{kvs:List (List Key × V)}{k:List Key}{v:V}(e:H a=some (.dT kvs))(eb:H b=some (.tup (k.map kV)))(hl:kvs.length < sizeLine):
  DPut H a (.ref b) v (upd H a (.dT (cC kvs k v))):=.inr ⟨kvs,k,b,e,rfl,eb,hl,rfl⟩
section
variable {v:V} {r:Value} {o:Option V}
theorem Inv.big(I:Inv X pins σ H s):sysModules < s.heap.objs.size:=by
 have h:mainGlobals < s.heap.objs.size:=(I.mod.glob.keeps I.bk).lt;exact Nat.lt_trans (by decide) h
theorem zbo(hu:A.units+1 < cLine)(I:Inv X pins σ H s)(g:DGet H a y (some v))(ry:RelV y u)(h:∀ w' s',Inv X pins σ H s'->RelV v w'->Q w' s'):
  wpAny (model X.prog X.w) A (getItem (.ref a) u) Q E s:=by
 rcases g with ⟨kvs,k,e,ey,l⟩ | ⟨kvs,k,b,e,ey,eb,l⟩
 ·subst ey;obtain ⟨z,hd,vs,rel,dd⟩:=fT I.hok e;obtain ⟨w',hw,rw'⟩:=RelO.some_of (v:=v) (o:=valueAt vs k) (by rw [l];exact rel.val k);exact wpAny_getItem_of (fB ry) dd.mapOf hw (h w' _ (I.tok _) rw')
 ·subst ey;cases (show u=Value.ref b from ry);obtain ⟨z,hd,xs,rel,dd⟩:=gU I.hok e;obtain ⟨w',hw,rw'⟩:=RelO.some_of (v:=v) (o:=(atKey xs k).map (·.2)) (by rw [l];exact rel.val k);obtain ⟨p,hp,hp2⟩:=Option.map_eq_some_iff.mp hw;refine wpAny_getItem_heap (tupleKind_room_in1 hu) (iQ I.hok eb) dd hp ?_;rw [hp2];exact h w' _ (I.tok _) rw'
theorem zbp(hu:A.units+1 < cLine)(I:Inv X pins σ H s)(g:DGet H a y o)(ry:RelV y u)(h:∀ s',Inv X pins σ H s'->Q (.bool o.isSome) s'):
  wpAny (model X.prog X.w) A (compareOp .In u (.ref a)) Q E s:=by
 rcases g with ⟨kvs,k,e,ey,l⟩ | ⟨kvs,k,b,e,ey,eb,l⟩
 ·subst ey;obtain ⟨z,hd,vs,rel,dd⟩:=fT I.hok e;refine wpAny_in_of (fB ry) hd dd.mapOf ?_;rw [← (rel.val k).isSome_eq,← l];exact h _ (I.tok _)
 ·subst ey;cases (show u=Value.ref b from ry);obtain ⟨z,hd,xs,rel,dd⟩:=gU I.hok e;refine wpAny_in_heap (tupleKind_room_in1 hu) (iQ I.hok eb) hd dd ?_;have q:=(rel.val k).isSome_eq;rw [Option.isSome_map] at q;rw [← q,← l];exact h _ (I.tok _)
theorem zbq(hu:A.units+1 < cLine)(I:Inv X pins σ H s)(g:DGet H a y o)(ry:RelV y u)(h:∀ s',Inv X pins σ H s'->Q (.bool (!o.isSome)) s'):
  wpAny (model X.prog X.w) A (compareOp .NotIn u (.ref a)) Q E s:=by
 rcases g with ⟨kvs,k,e,ey,l⟩ | ⟨kvs,k,b,e,ey,eb,l⟩
 ·subst ey;obtain ⟨z,hd,vs,rel,dd⟩:=fT I.hok e;refine wpAny_notIn_of (fB ry) hd dd.mapOf ?_;rw [← (rel.val k).isSome_eq,← l];exact h _ (I.tok _)
 ·subst ey;cases (show u=Value.ref b from ry);obtain ⟨z,hd,xs,rel,dd⟩:=gU I.hok e;refine wpAny_notIn_heap (tupleKind_room_in1 hu) (iQ I.hok eb) hd dd ?_;have q:=(rel.val k).isSome_eq;rw [Option.isSome_map] at q;rw [← q,← l];exact h _ (I.tok _)
theorem ji{ob:HO}(I:Inv X pins σ H s)(mu:Mut (H a))(hs:Heap.SameBut a s.heap h')(he:∃ q,h'.get? a=some q)(new:ObjOk X.prog X.w (upd H a ob) h' a ob):
  Inv X pins σ (upd H a ob) { s with heap:=h',toks:=t' }:=
 I.write (x:=a) (e:=a) mu (.inl rfl) (λ b q hb z=>(hs.2 b hb).trans z) he new
theorem kh{vs:List (Key × Value)}(z:kvs.length<=sizeLine)(hd:(a == sysModules)=false)(rel:KV kvs vs)(dd:h'.DictOf (bY P w) a vs):
  ObjOk P w H' h' a (.dK kvs):=⟨z,hd,vs,rel,dd⟩
theorem zbt{Q:Unit->Shared->Prop}(hu:A.units+1 < cLine)(I:Inv X pins σ H s)(g:DPut H a y v H')(ry:RelV y u)(rv:RelV v r)(h:∀ s',Inv X pins σ H' s'->Q () s'):
  wpAny (model X.prog X.w) A (setItem (.ref a) u r) Q E s:=by
 rcases g with ⟨kvs,k,e,ey,l,eH⟩ | ⟨kvs,k,b,e,ey,eb,l,eH⟩
 ·subst ey eH;obtain ⟨z,hd,vs,rel,dd⟩:=gR I.hok e;have hz:vs.length<=sizeLine:=by rw [← rel.length];exact z
  have hl:(cC kvs k v).length<=sizeLine:=by have:=nH kvs k v;omega
  refine wpAny_setItem_pairs (hsz:=hz) (fB ry) dd λ h' dd' hs=>h _ ?_;have he:∃ q,h'.get? a=some q:=let ⟨q,_,_,hq,_⟩:=dd';⟨q,hq⟩;exact ji I (by rw [e];exact True.intro) hs he (kh hl hd (rel.put k rv) dd')
 ·subst ey eH;cases (show u=Value.ref b from ry);obtain ⟨z,hd,xs,rel,dd⟩:=zbz I.hok e;have hz:xs.length<=sizeLine:=by rw [← Paired.length rel];exact z
  have hl:(cC kvs k v).length<=sizeLine:=by have:=nH kvs k v;omega
  refine wpAny_setItem_heap (hsz:=hz) (tupleKind_room_in1 hu) (iQ I.hok eb) dd λ h' dd' hs=>h _ ?_;obtain ⟨q,es,ep,hq,h2,h3,h4,_,h5⟩:=dd';refine ji I (by rw [e];exact True.intro) hs ⟨q,hq⟩ ⟨hl,hd,_,(rel.put k eb rv).keeps λ c ys ec=>?_,q,es,ep,hq,h2,h3,h4,h5⟩;rw [ag (cZ ec e (λ z=>nomatch z))];exact ec
end
section
variable {k:Key}
theorem zkx{Q:Unit->Shared->Prop}(I:Inv X pins σ H s)(e:H a=some (.dK kvs))(ry:RelV (kV k) u)(l:(ba kvs k).isSome=true)(h:∀ s',Inv X pins σ (upd H a (.dK (eB kvs k))) s'->Q () s'):
  wpAny (model X.prog X.w) A (delItem (.ref a) u) Q E s:=by
 obtain ⟨z,hd,vs,rel,dd⟩:=gR I.hok e;refine wpAny_delItem_slot dd.typeIs (by decide) F.slot_dict_delitem
  (call_meetsIn F.slot_dict_delitem dd.typeIs F.entry_dict_delitem (F.args_dict_delitem_2 _ _) (meets_dict_delitem_pairs (bY X.prog X.w) a (fB ry)) ⟨vs,dd,by rw [← rel.length];exact z,by rw [← (rel.val k).isSome_eq];exact l,λ h' dd' hs=>h _ ?_⟩)
 have he:∃ q,h'.get? a=some q:=let ⟨q,_,_,hq,_⟩:=dd';⟨q,hq⟩;exact ji I (by rw [e];exact True.intro) hs he (kh (Nat.le_trans (ut kvs k) z) hd (rel.drop k) dd')
theorem zbr{v:V}{more:List Value}(I:Inv X pins σ H s)(e:H a=some (.dK kvs))(ry:RelV (kV k) u)(l:ba kvs k=some v)(hm:more=[]\/∃ x,more=[x])(h:∀ w' s',Inv X pins σ (upd H a (.dK (eB kvs k))) s'->RelV v w'->Q w' s'):wpAny (model X.prog X.w) A (call (.builtin "dict.pop") (.ref a::u::more)) Q E s:=by
 obtain ⟨z,hd,vs,rel,dd⟩:=gR I.hok e;obtain ⟨w',hw,rw'⟩:=RelO.some_of (v:=v) (o:=valueAt vs k) (by rw [← l];exact rel.val k);have hp:(keyPart u).isSome=true:=by
  cases k with
  | inl i=>cases i with
   | none=>cases (show u=Value.none from ry);rfl
   | some i=>obtain ⟨t,q⟩:=(show ∃ t,u=Value.int i t from ry);subst q;rfl
  | inr x=>obtain ⟨t,q⟩:=(show ∃ t,u=Value.str x t from ry);subst q;rfl
 have ha:argsOk "dict.pop" ⟨.ref a::u::more,[]⟩:=by
  rcases hm with q | ⟨x,q⟩
  ·subst q;exact F.args_dict_pop_2 _ _
  ·subst q;exact F.args_dict_pop_3 _ _ _
 refine call_meetsIn F.slot_dict_pop dd.typeIs F.entry_dict_pop ha (meets_dict_pop_there (bY X.prog X.w) a (fB ry) more hm hp)
  ⟨vs,w',dd,by rw [← rel.length];exact z,hw,λ h' dd' hs=>h w' _ ?_ rw'⟩
 have he:∃ q,h'.get? a=some q:=let ⟨q,_,_,hq,_⟩:=dd';⟨q,hq⟩;exact ji I (by rw [e];exact True.intro) hs he (kh (Nat.le_trans (ut kvs k) z) hd (rel.drop k) dd')
theorem zbs{r:Value}(I:Inv X pins σ H s)(e:H a=some (.dK kvs))(ry:RelV (kV k) u)(l:ba kvs k=none)(h:∀ s',Inv X pins σ H s'->Q r s'):
  wpAny (model X.prog X.w) A (call (.builtin "dict.pop") [.ref a,u,r]) Q E s:=by
 obtain ⟨z,hd,vs,rel,dd⟩:=gR I.hok e;have hn:valueAt vs k=none:=RelO.none_of (by rw [← l];exact rel.val k);have hp:(keyPart u).isSome=true:=by
  cases k with
  | inl i=>cases i with
   | none=>cases (show u=Value.none from ry);rfl
   | some i=>obtain ⟨t,q⟩:=(show ∃ t,u=Value.int i t from ry);subst q;rfl
  | inr x=>obtain ⟨t,q⟩:=(show ∃ t,u=Value.str x t from ry);subst q;rfl
 exact call_meetsIn F.slot_dict_pop dd.typeIs F.entry_dict_pop (F.args_dict_pop_3 _ _ _) (meets_dict_pop_default (bY X.prog X.w) a (fB ry) hd hp r) ⟨vs,dd,hn,h _ (I.tok _)⟩
theorem um(I:Inv X pins σ H s)(e:Rd H a (.dK kvs))(h:∀ t s',Inv X pins σ H s'->Q (.int kvs.length t) s'):wpAny (model X.prog X.w) A (call (.builtin "len") [.ref a]) Q E s:=by
 obtain ⟨z,hd,vs,rel,dd⟩:=fT I.hok e;refine call_len_dict hd dd (by rw [← rel.length];rw [sizeLine_eq] at z;omega) ?_;rw [← rel.length];exact h _ _ (I.tok _)
end
noncomputable def mw(i:Expr):Prop:=∀ ov iv,subscripted i false ov iv=operate [ov,iv] (getItem ov iv)
theorem yi{slice:Expr}{T id:String}(hl:typeLookup (.type T) "__getitem__" = pure (some (.builtin id)))(hs:mw slice)(h:wpAny (model prog w) A (eval value env) (λ o s₁=>wpAny (model prog w) A (eval slice env) (λ i s₂=>s₂.TypeIs o T/\wpAny (model prog w) A (getItem o i) Q E s₂) E s₁) E s):
  wpAny (model prog w) A (eval (.Subscript value slice pos) env) Q E s:=by
 refine Subscript_ (wpAny_mono h (λ o s₁ h₁=>wpAny_mono h₁ (λ i s₂ h₂=>?_) λ _ _ x=>x) λ _ _ x=>x);obtain ⟨hT,h₂⟩:=h₂;unfold subscriptTail;refine af ?_;rw [getitemInPython_of_ne hT.not_modules];refine af (wpAny_specialOf hT hl ?_);have fin:wpAny (model prog w) A (subscripted slice false o i) (λ r s₃=>wpAny (model prog w) A (letTemporaryGo value o r >>= λ _=>pure r) Q E s₃) E s₂:=by
  rw [hs o i];exact wpAny_operating (wpAny_mono h₂ (λ r s₃ h₃=>af (wpAny_letTemporaryGo (aG h₃))) λ _ _ x=>x)
 first
  | exact aG (af fin)
  | exact af (aG (af fin))
  | exact af fin
theorem zbu{o:Option V}(I:Inv X pins σ H s)(g:DGet H a y o):s.TypeIs (.ref a) "dict" := by
 rcases g with ⟨kvs,k,e,_,_⟩ | ⟨kvs,k,b,e,_,_,_⟩
 ·obtain ⟨_,_,vs,_,dd⟩:=fT I.hok e;exact dd.typeIs
 ·obtain ⟨_,_,xs,_,dd⟩:=gU I.hok e;exact dd.typeIs
noncomputable def zjo(td ty:TE):TE:=λ σ H Q=>td σ H λ x H1=>ty σ H1 λ y H2=>∃ a v,x = .ref a/\DGet H2 a y (some v)/\Q v H2
noncomputable def zjq(ty td:TE):TE:=λ σ H Q=>ty σ H λ y H1=>td σ H1 λ x H2=>∃ a o,x = .ref a/\DGet H2 a y o/\Q (.bl o.isSome) H2
noncomputable def zjs(ty td:TE):TE:=λ σ H Q=>ty σ H λ y H1=>td σ H1 λ x H2=>∃ a o,x = .ref a/\DGet H2 a y o/\Q (.bl (!o.isSome)) H2
noncomputable def xf(td ty tv:TE):TS:=λ D σ H=>tv σ H λ v H1=>td σ H1 λ x H2=>ty σ H2 λ y H3=>∃ a H4,x = .ref a/\DPut H3 a y v H4/\D.nx σ H4
section
variable {o i:Expr} {ty:TE}
theorem oE(hu:X.A.units+1 < cLine)(ho:PE X o td)(hi:PE X i ty)(hs:mw i):PE X (.Subscript o i pos) (zjo td ty):=by
 intro pins s σ H Q I h;refine yi F.slot_dict_getitem.lookup hs (thn (ho pins s σ H _ I h) λ u s1 ⟨x,H1,I1,rx,q1⟩=>thn (hi pins s1 σ H1 _ I1 q1) λ iv s2 ⟨y,H2,I2,ry,a,v,ex,g,q2⟩=>?_);subst ex;obtain rfl:u=Value.ref a:=rx;exact ⟨zbu I2 g,zbo hu I2 g ry λ w' s3 I3 rw'=>⟨v,H2,I3,rw',q2⟩⟩
theorem zhg(hu:X.A.units+1 < cLine)(hi:PE X i ty)(ho:PE X o td):PC X .In i o (zjq ty td):=by
 intro pins s σ H Q I h;refine thn (hi pins s σ H _ I h) λ iv s1 ⟨y,H1,I1,ry,q1⟩=>thn (ho pins s1 σ H1 _ I1 q1) λ u s2 ⟨x,H2,I2,rx,a,ov,ex,g,q2⟩=>?_;subst ex;obtain rfl:u=Value.ref a:=rx;exact zbp hu I2 g ry λ s3 I3=>⟨.bl ov.isSome,H2,I3,rfl,q2⟩
theorem zhh(hu:X.A.units+1 < cLine)(hi:PE X i ty)(ho:PE X o td):PC X .NotIn i o (zjs ty td):=by
 intro pins s σ H Q I h;refine thn (hi pins s σ H _ I h) λ iv s1 ⟨y,H1,I1,ry,q1⟩=>thn (ho pins s1 σ H1 _ I1 q1) λ u s2 ⟨x,H2,I2,rx,a,ov,ex,g,q2⟩=>?_;subst ex;obtain rfl:u=Value.ref a:=rx;exact zbq hu I2 g ry λ s3 I3=>⟨.bl (!ov.isSome),H2,I3,rfl,q2⟩
theorem oK(hu:X.A.units+1 < cLine)(ho:PE X o td)(hi:PE X i ty)(hv:PE X value tv)(hs:swapsWith value (some (.Subscript o i pos')) pos.line X.env=pure false):
  PS X (.Assign [.Subscript o i pos'] value pos) (xf td ty tv):=by
 intro pins s σ H D I h;refine wpAny_Assign_Subscript (thn (hv pins s σ H _ I h) λ r s1 ⟨v,H1,I1,rv,q1⟩=>thn (ho pins s1 σ H1 _ I1 q1) λ u s2 ⟨x,H2,I2,rx,q2⟩=>thn (hi pins s2 σ H2 _ I2 q2) λ iv s3 ⟨y,H3,I3,ry,a,H4,ex,g,q3⟩=>?_) hs;subst ex;obtain rfl:u=Value.ref a:=rx;exact zbt hu I3 g ry rv λ s4 I4=>⟨σ,H4,I4,q3⟩
end
theorem zbw(h:Heap)(hb:sysModules < h.objs.size):ObjOk P w H (h.push { cls:=.type "dict", data:=.dict #[] }) h.objs.size (.dK []):=
 ⟨Nat.zero_le _,beq_eq_false_iff_ne.mpr (Ne.symm (Nat.ne_of_lt hb)),[],.nil,Heap.DictOf.new h⟩
noncomputable def zjr:TE:=λ _ H Q=>∀ p,H p=none->Q (.ref p) (upd H p (.dK []))
theorem jx:PE X (.Dict [] [] pos) zjr:=λ pins s σ H Q I h=>
 wpAny_Dict_empty ⟨.ref s.heap.objs.size,_,I.laid (a:=s.heap.objs.size) (o:=.dK []) (t':=s.toks) (λ _ _ q=>aY _ q) (Nat.le_refl _) (zbw s.heap I.big),rfl,h _ (I.hok.fresh (Nat.le_refl _))⟩
structure M2 (X:Cx) (o:Expr) (m:Str) (apos:Pos) (e f:Expr) (cpos:Pos):Prop where
 base:attributeBase o m X.env (eval o X.env)=eval o X.env
 few:((backTo cpos (starEach [e,f] X.env)).all (λ x=>!x.1) && (backToKw cpos (keywordEach [] X.env)).all (λ x=>x.1.isSome)
  && decide (([e,f]:List Expr).length+([]:List Keyword).length+(if ([]:List Keyword).isEmpty then 0 else 1) < 30))=true
 line:(apos.endLine == cpos.line)=true
 trees:backTo cpos (starEach [e,f] X.env)=[(false,eval e X.env),(false,eval f X.env)]
noncomputable def IsD(H:Hp)(a:Addr):Prop:=(∃ kvs,Rd H a (.dK kvs))\/∃ kvs,Rd H a (.dT kvs)
theorem vc(I:Inv X pins σ H s)(d:IsD H a):
  s.TypeIs (.ref a) "dict" /\ (∀ b,Value.ref a = .ref b->∃ ob,s.heap.get? b=some ob/\ob.dict=none)/\(a == sysModules)=false:=by
 rcases d with ⟨kvs,e⟩ | ⟨kvs,e⟩
 ·obtain ⟨_,hd,vs,_,dd⟩:=fT I.hok e;refine ⟨dd.typeIs,λ b q=>?_,hd⟩;cases q;obtain ⟨ob,_,_,h1,h2,_⟩:=dd;exact ⟨ob,h1,h2.2.1⟩
 ·obtain ⟨_,hd,xs,_,dd⟩:=gU I.hok e;refine ⟨dd.typeIs,λ b q=>?_,hd⟩;cases q;obtain ⟨ob,_,_,h1,h2,_⟩:=dd;exact ⟨ob,h1,h2.2.1⟩
section
variable {d:V} {r:Value} {o:Option V}
theorem zbn(hu:A.units+1 < cLine)(I:Inv X pins σ H s)(g:DGet H a y o)(ry:RelV y u)(rd:RelV d r)(h:∀ w' s',Inv X pins σ H s'->RelV (o.getD d) w'->Q w' s'):
  wpAny (model X.prog X.w) A (call (.builtin "dict.get") [.ref a,u,r]) Q E s:=by
 rcases g with ⟨kvs,k,e,ey,l⟩ | ⟨kvs,k,b,e,ey,eb,l⟩
 ·subst ey;obtain ⟨z,hd,vs,rel,dd⟩:=fT I.hok e;refine call_meetsIn F.slot_dict_get dd.typeIs F.entry_dict_get (F.args_dict_get_3 _ _ _) (meets_dict_get_default (bY X.prog X.w) a (fB ry) hd r) ⟨_,dd.mapOf,h _ _ (I.tok _) ?_⟩;rw [l];exact (rel.val k).getD rd
 ·subst ey;cases (show u=Value.ref b from ry);obtain ⟨z,hd,xs,rel,dd⟩:=gU I.hok e;refine call_meetsIn F.slot_dict_get dd.typeIs F.entry_dict_get (F.args_dict_get_3 _ _ _) (meetsH_dict_get_default (tupleKind (bY X.prog X.w)) a b hd r) ⟨tupleKind_room_in1 hu,k,xs,iQ I.hok eb,dd,h _ _ (I.tok _) ?_⟩;rw [l];exact (rel.val k).getD rd
end
noncomputable def zjp(td ty tx:TE):TE:=λ σ H Q=>td σ H λ x H1=>∃ a,x = .ref a/\IsD H1 a/\ty σ H1 λ y H2=>tx σ H2 λ z H3=>∃ o,DGet H3 a y o/\Q (o.getD z) H3
noncomputable def zjt(td ty tx:TE):TE:=λ σ H Q=>td σ H λ x H1=>∃ a,x = .ref a/\IsD H1 a/\ty σ H1 λ y H2=>tx σ H2 λ z H3=>∃ kvs k,H3 a=some (.dK kvs)/\y=kV k/\
 (∀ v,ba kvs k=some v->Q v (upd H3 a (.dK (eB kvs k))))/\(ba kvs k=none->Q z H3)
section
variable {o f:Expr} {ty tx:TE}
theorem zhm(hu:X.A.units+1 < cLine)(ho:PE X o td)(he:PE X e ty)(hf:PE X f tx)(m:M2 X o "get" apos e f cpos):PE X (.Call (.Attribute o "get" apos) [e,f] [] cpos) (zjp td ty tx):=by
 intro pins s σ H Q I h;refine wpAny_Call_method m.base m.few m.line F.plainAttrs_dict F.slot_dict_get F.type_dict_get (thn (ho pins s σ H _ I h) λ u s1 ⟨x,H1,I1,rx,a,ex,d,q1⟩=>?_);subst ex;obtain rfl:u=Value.ref a:=rx;obtain ⟨t1,t2,_⟩:=vc I1 d;refine ⟨t1,t2,?_⟩;rw [m.trees];refine Calls.callWith_builtin rfl (Calls.evalArgs_plain (Calls.spliced_cons (thn (he pins s1 σ H1 _ I1 q1) λ iv s2 ⟨y,H2,I2,ry,q2⟩=>
  Calls.spliced_cons (thn (hf pins s2 σ H2 _ I2 q2) λ fv s3 ⟨z,H3,I3,rz,ov,g,q3⟩=>Calls.spliced_nil ?_))))
 exact zbn hu I3 g ry rz λ w' s4 I4 rw'=>⟨_,H3,I4,rw',q3⟩
theorem zhn(ho:PE X o td)(he:PE X e ty)(hf:PE X f tx)(m:M2 X o "pop" apos e f cpos):PE X (.Call (.Attribute o "pop" apos) [e,f] [] cpos) (zjt td ty tx):=by
 intro pins s σ H Q I h;refine wpAny_Call_method m.base m.few m.line F.plainAttrs_dict F.slot_dict_pop F.type_dict_pop (thn (ho pins s σ H _ I h) λ u s1 ⟨x,H1,I1,rx,a,ex,d,q1⟩=>?_);subst ex;obtain rfl:u=Value.ref a:=rx;obtain ⟨t1,t2,_⟩:=vc I1 d;refine ⟨t1,t2,?_⟩;rw [m.trees];refine Calls.callWith_builtin rfl (Calls.evalArgs_plain (Calls.spliced_cons (thn (he pins s1 σ H1 _ I1 q1) λ iv s2 ⟨y,H2,I2,ry,q2⟩=>
  Calls.spliced_cons (thn (hf pins s2 σ H2 _ I2 q2) λ fv s3 ⟨z,H3,I3,rz,kvs,k,ea,ey,q3,q4⟩=>Calls.spliced_nil ?_))))
 subst ey;cases l:ba kvs k with
 | some v=>exact zbr I3 ea ry l (.inr ⟨fv,rfl⟩) λ w' s4 I4 rw'=>⟨v,_,I4,rw',q3 v l⟩
 | none=>exact zbs I3 ea ry l λ s4 I4=>⟨z,H3,I4,rz,q4 l⟩
end
namespace Att
open PySem PySem.W PySem.Calls PyProof.Rows
theorem zc6{P:Params}: ∀ (ns:List Int) (vs:List Value),WellAll P h vs (ns.map WData.int)->IntsAre vs ns:=by
 intro ns;induction ns with
 | nil=>
  intro vs w;rw [List.map_nil] at w;cases w;exact .nil
 | cons n ns ih=>
  intro vs w;rw [List.map_cons] at w;cases w with
  | cons a b=>
   cases a;exact .cons _ _ (ih _ b)
theorem zi4{l:OpenLaw}(hn:l.most=some n){P:Params}{args:List WData}{vals:List Value}(hpre:l.row.toRowW.claim.pre args=true)(hwl:WellAll P h vals args):
  ∃ a vs ns,vals=[Value.ref a]/\args=[WData.list (ns.map WData.int)]/\h.get? a=some { cls:=.type "list", data:=.seq vs.toArray }/\IntsAre vs ns/\ns.length<=n:=by
 have hsh:WShape.hasAll [] args [.list .int]=true:=(pre_splitW hpre).1;have hc:l.pre.holds [] { args:=args }=true:=(pre_splitW hpre).2;obtain ⟨d,r,rfl,h1,h2⟩:=hasAllW_cons hsh;obtain rfl:=hasAllW_nil h2;obtain ⟨xs,rfl,h3⟩:=hasW_list h1;obtain ⟨ns,rfl⟩:=items_int h3;have hlen:ns.length<=n:=by
  unfold OpenLaw.pre at hc;have h4:(WTm.not (.lt (.lit (.int (n:Int))) (.len (.arg 0)))).holds [] { args:=[.list (ns.map .int)] }=true:=by
   have h4:=(holds_andW hc).1;rw [hn] at h4;exact h4
  have h5:=condW_of h4 (w_not (w_lt w_lit (w_len_list (w_arg rfl))));rw [aj] at h5;refine Nat.le_of_not_lt λ q=>?_;have q':(n:Int) < ((ns.length:Nat):Int):=by omega
  first
   | (rw [aN q'] at h5;exact absurd h5 (by decide))
   | (simp at h5;omega)
 cases hwl with
 | cons w1 w2=>
  cases w2;cases w1 with
  | list ho hall=>exact ⟨_,_,ns,rfl,rfl,ho,zc6 ns _ hall,hlen⟩
theorem zhv(l:OpenLaw)(args:List WData):l.row.toRowW.claim.post args (.bool true) args=true:=
 postW_of (r:=l.row.toRowW) (X:=(true == true))
  (show WShape.has [] (.bool true) .bool=true by first | rfl | decide | simp [WShape.has,WShape.arms,WShape.armsAll])
  (show (WTm.eq .res (.lit (.bool true))).value [] { args:=args,res:=some (.bool true),after:=args }=some (.bool (true == true)) from w_eq_bool (w_res rfl) w_lit) rfl
theorem attach_call{l:OpenLaw}{d:DefRec}(hn:l.most=some n)(hdf:d.params.defaults=[])(call:∀ (w:World) (s₀ s₁:Shared) (mg mb:Str->Option Value) (fa:Addr) (o:Obj) (pm cd doc:Value) (a:Addr) (vs:List Value) (ns:List Int),
   Ground q loose [] XP w s₀ mg mb s₁.heap->YP w s₁.heap->
   s₁.heap.get? fa=some o->o.data = .func (docDef d.name d.params d.body d.scope pm cd doc)->s₁.heap.CodeRec cd d.name->mg d.name=some (.ref fa)->
   s₁.heap.get? a=some { cls:=.type "list", data:=.seq vs.toArray }->IntsAre vs ns->ns.length<=n->s₁.gens = #[]->
   codeAny (model l.prog w) callerA (.call (.ref fa) ⟨[.ref a],[]⟩) (λ r s'=>r = .ok (.ret (.bool true))/\OldK s₁.heap s'.heap/\s'.os=s₁.os/\AllBare s'.gens) s₁):
  WalkO q loose XP YP l.row.toRowW d [] (λ f vs=>PySem.call f vs):=by
 intro w s₀ s₁ mg mb G Y fa o pm cd doc dV kV ho hd hcd hD hmg hg args vals as hpre hlay hrd hwl hlo;obtain rfl:dV = .none:=Dflts.none hD hdf;obtain rfl:kV = .none:=Dflts.noKw hD;obtain ⟨a,vs,ns,rfl,rfl,hobj,hints,hlen⟩:=zi4 hn hpre hwl;refine enter_call (codeAny_mono (call w s₀ s₁ mg mb fa o pm cd doc a vs ns G Y ho (fd_plain hd) hcd hmg hobj hints hlen hg) λ r s' hq=>?_);obtain ⟨rfl,h2,h3,h4⟩:=hq;exact ⟨.inl ⟨.bool true,.bool true,[],rfl,λ _=>rfl,.bool true,zhv l _,λ _=>⟨List.Pairwise.nil,λ _ hm=>(nomatch hm)⟩⟩,h2,h3,h4⟩
section
variable {K:Frag}
end
end Att
theorem rZ:∀ {vs:List Value} {ns:List Int},IntsAre vs ns->Vals (ns.map V.int) vs
 | _,_,.nil=>.nil
 | _,_,.cons n t h=>.cons ⟨t,rfl⟩ (rZ h)
noncomputable def jY(H:Hp):Prop:=∀ b,H b=none\/∃ o xs,H b=some (.frz o (.lst xs))
theorem zdH{mb:Str->Option Value}{k:Nat}{fa:Addr}{s₁:Shared}{vs:List Value}(KX:K.In s₁.heap)(hns:s₁.heap.Ns mainGlobals mg)(hb:s₁.heap.Ns builtinsNs mb)(hbb:∀ x:Str,x ≠ "__name__" -> mb x=bootBuiltins x)(hlim:s₁.heap.NoLimit)(hg:s₁.gens = #[])(ha:s₁.heap.get? a=some { cls:=.type "list", data:=.seq vs.toArray })(hi:IntsAre vs ns)(hl:ns.length<=sizeLine)(hr:Room k callerA)(F:∀ base:Heap,K.In base->base.Ns mainGlobals mg->FnOk P w K mg base CX k fa fd [x] sp)(hbind:∀ (s:Shared) (u:Value),BindsTo s fd ⟨[u],[]⟩ [(x,u)])(hsp:∀ H:Hp,jY H->SqL K H a (ns.map V.int)->sp [.ref a] H (λ v _=>v = .bl true) λ _ _ _=>False)(hCX:∀ H e s',CX [] H s₁ (λ _ _ _=>False) e s'->False):
  codeAny (model P w) callerA (.call (.ref fa) ⟨[.ref a],[]⟩) (λ r s'=>r = .ok (.ret (.bool true))/\OldK s₁.heap s'.heap/\s'.os=s₁.os/\AllBare s'.gens) s₁:=by
 have rv:=rZ hi;have lenV:=hi.length
 -- from an abstract heap in which nothing but the script may be tracked
 have core:∀ H:Hp,jY H->SqL K H a (ns.map V.int)->HOk P w H s₁.heap->(∀ b,H b≠none->b=a)->(H a≠none->K.lookup a=none)->
   codeAny (model P w) callerA (.call (.ref fa) ⟨[.ref a],[]⟩) (λ r s'=>r = .ok (.ret (.bool true))/\OldK s₁.heap s'.heap/\s'.os=s₁.os/\AllBare s'.gens) s₁:=by
  intro H hO hS hok hA hK;have base_of:∀ {b:Addr} {o:Obj},s₁.heap.get? b=some o->H b=none->(fX s₁.heap H).get? b=some o:=λ e n=>zch e n;have noA:∀ {b:Addr} {o:Obj} {es:Array DictEntry} {ep:Nat},s₁.heap.get? b=some o->o.data = .dict es ep->H b=none:=λ {b o es ep} e d=>by
   cases q:H b with
   | none=>rfl
   | some u=>
    have e':b=a:=hA b (by rw [q];simp);subst e';rw [ha] at e;cases e;have d':Data.seq vs.toArray _=Data.dict es ep:=d;cases d'
  have nsK:∀ {b:Addr} {m:Str->Option Value},s₁.heap.Ns b m->(fX s₁.heap H).Ns b m:=λ {b m} ⟨o,es,ep,e,d,r⟩=>⟨o,es,ep,base_of e (noA e d),d,r⟩
  have hKb:K.In (fX s₁.heap H):=λ b o e=>base_of (KX b o e) (by
   cases q:H b with
   | none=>rfl
   | some u=>
    have e':b=a:=hA b (by rw [q];simp);subst e';rw [hK (by rw [q];simp)] at e;cases e)
  have hM:Mod K mg (fX s₁.heap H):=⟨hKb,nsK hns,⟨mb,nsK hb,hbb⟩,let ⟨mc,h1,h2⟩:=hlim;⟨mc,nsK h1,h2⟩⟩
  have e0:Env0 P w K mg (fX s₁.heap H) callerA [] s₁ H:=⟨rfl,hM,λ b o e=>zfy e,Nat.le_of_eq (zci _ _),trivial,λ b hb=>absurd (show b∈([]:List Addr) from hb) (by simp),hok,.of_eq hg⟩
  refine codeAny_mono ((F _ hKb (nsK hns)).run callerA [] s₁ H ⟨[.ref a],[]⟩ [.ref a] [.ref a] _ _ hr e0 (hbind s₁ (.ref a)) (.cons rfl .nil) (hsp H hO hS)) λ r s' h=>?_;cases r with
  | error e=>exact (hCX H e s' h).elim
  | ok fl=>
   cases fl with
   | next=>exact False.elim h
   | brk=>exact False.elim h
   | cont=>exact False.elim h
   | ret u=>
    obtain ⟨v,H',os,bare,un,hok',r',q⟩:=h;have q':v = .bl true:=q;subst q';obtain rfl:u=Value.bool true:=r';refine ⟨rfl,OldK.of_keep λ b o e=>?_,os,bare⟩;cases q:H b with
    | none=>exact un.keep b o e q (by intro z;exact absurd (show b∈([]:List Addr) from z) (by simp)) (by simp)
    | some u=>
     rcases hO b with z | ⟨ob,xs,z⟩
     ·rw [q] at z;cases z
     ·have z2:=un.frzs b ob _ z;obtain ⟨e1,_⟩:=hok b _ z;obtain ⟨e2,_⟩:=hok' b _ z2;rw [e] at e1;cases e1;exact e2
 cases hk:K.lookup a with
 | some o=>
  -- the script is one of the module's own objects
  have e:=KX a o hk;rw [ha] at e;cases e;refine core (λ _=>none) (λ _=>.inl rfl) (.inr ⟨_,vs.toArray,_,hk,rfl,rfl,rfl,by rw [a9,lenV];exact hl,by simpa using rv⟩) (λ b u z=>by have z':(none:Option HO)=some u:=z;cases z') (λ b z=>absurd rfl z) λ z=>absurd rfl z
 | none=>
  refine core (λ b=>if b=a then some (.frz { cls:=.type "list", data:=.seq vs.toArray } (.lst (ns.map V.int))) else none) (λ b=>?_) (.inl (.inr ⟨{ cls:=.type "list", data:=.seq vs.toArray },if_pos rfl⟩)) (λ b u z=>?_) (λ b z=>?_) λ _=>hk
  ·by_cases hb:b=a
   ·exact .inr ⟨_,_,if_pos hb⟩
   ·exact .inl (if_neg hb)
  ·by_cases hb:b=a
   ·have z':=(if_pos hb).symm.trans z;cases z';subst hb;exact ⟨ha,by rw [aj];exact hl,vs,_,rv,ha⟩
   ·have z':=(if_neg hb).symm.trans z;cases z'
  ·by_cases hb:b=a
   ·exact hb
   ·exact absurd (if_neg hb) z
theorem zkd{l:W.OpenLaw}{k:Nat}{d:DefRec}{K:Params->W.Frag}{CX:World->CXT}{sp:World->Sp}(hn:l.most=some n)(hn2:n<=sizeLine)(hdf:d.params.defaults=[])(hr:Room k callerA)(hY:∀ (w:World) (h:Heap),YP w h->(K w.params).In h)(F:∀ (w:World) (mg:Str->Option Value) (fa:Addr) (h:Heap),(K w.params).In h->h.Ns mainGlobals mg->mg d.name=some (.ref fa)->
   ∃ fd:FuncData,(∀ (s:Shared) (u:Value),BindsTo s fd ⟨[u],[]⟩ [(x,u)])/\
    ∀ base:Heap,(K w.params).In base->base.Ns mainGlobals mg->FnOk l.prog w (K w.params) mg base (CX w) k fa fd [x] (sp w))(hsp:∀ (w:World) (H:Hp) (a:Addr) (ns:List Int),ns.length<=n->jY H->SqL (K w.params) H a (ns.map V.int)->sp w [.ref a] H (λ v _=>v = .bl true) λ _ _ _=>False)(hCX:∀ (w:World) (H:Hp) (s:Shared) (e:Value) (s':Shared),CX w [] H s (λ _ _ _=>False) e s'->False):
  W.WalkO q loose XP YP l.row.toRowW d [] (λ f vs=>PySem.call f vs):=by
 refine Att.attach_call hn hdf λ w s₀ s₁ mg mb fa o pm cd doc a vs ns G Y ho hd hcd hmg hobj hints hlen hg=>?_;have KX:=hY w _ Y;obtain ⟨fd,hb,hF⟩:=F w mg fa _ KX G.T.g hmg;exact zdH KX G.T.g G.T.b G.T.builtins G.T.nolimit hg hobj hints (Nat.le_trans hlen hn2) hr hF hb (λ H hO hS=>hsp w H a ns hlen hO hS) λ H e s'=>hCX w H s₁ e s'
theorem zke{l:W.OpenLaw}{k:Nat}{d:DefRec}{K:Params->W.Frag}{sp:W.Frag->Sp}(hn:l.most=some n)(hn2:n<=sizeLine)(hdf:d.params.defaults=[])(hr:Room k callerA)(hY:∀ (w:World) (h:Heap),YP w h->(K w.params).In h)(F:∀ (w:World) (mg:Str->Option Value) (fa:Addr) (h:Heap),(K w.params).In h->h.Ns mainGlobals mg->mg d.name=some (.ref fa)->
   ∃ fd:FuncData,(∀ (s:Shared) (u:Value),BindsTo s fd ⟨[u],[]⟩ [(x,u)])/\
    ∀ base:Heap,(K w.params).In base->base.Ns mainGlobals mg->FnOk l.prog w (K w.params) mg base CX k fa fd [x] (sp (K w.params)))(hsp:∀ (K:W.Frag) (H:Hp) (a:Addr) (ns:List Int),ns.length<=n->jY H->SqL K H a (ns.map V.int)->sp K [.ref a] H (λ v _=>v = .bl true) λ _ _ _=>False)(hCX:∀ (H:Hp) (s:Shared) (e:Value) (s':Shared),CX [] H s (λ _ _ _=>False) e s'->False):
  W.WalkO q loose XP YP l.row.toRowW d [] (λ f vs=>PySem.call f vs):=
 zkd (K:=K) (CX:=λ _=>CX) (sp:=λ w=>sp (K w.params)) hn hn2 hdf hr hY F (λ w H a ns h1 h2 h3=>hsp (K w.params) H a ns h1 h2 h3) λ _ H s e s'=>hCX H s e s'
noncomputable def bO(s:Stmt)(j:Nat):Stmt:=match s with
 | .ClassDef _ _ _ body _ _ _ _ _ _ _=>body.getD j (.Pass ⟨0,0,0,0⟩)
 | _=>.Pass ⟨0,0,0,0⟩
noncomputable def dG(s:Stmt):Arguments:=match s with
 | .FunctionDef _ a _ _ _ _ _ _ _ _=>a
 | _=>{ posonlyargs:=[],args:=[],vararg:=none,kwonlyargs:=[],kw_defaults:=[],kwarg:=none,defaults:=[] }
noncomputable def dh(s:Stmt):List Stmt:=match s with
 | .FunctionDef _ _ b _ _ _ _ _ _ _=>b
 | _=>[]
noncomputable def ax(s:Stmt):Scope:=match s with
 | .FunctionDef _ _ _ _ _ _ sc _ _ _=>sc
 | _=>{ kind:=.function,names:=[],isGenerator:=false,isCoroutine:=false }
noncomputable abbrev CX0:CXT:=λ _ _ _ _ _ _=>False
noncomputable abbrev E0:XK:=λ _ _ _=>False
theorem az  : c9 CX0 X E0:=λ _ _ _ _ _ _ _ h=>h.elim
structure Fun (K:W.Frag) (x qual:Str) (st:Stmt) (f:Addr) (fd:FuncData):Prop where
 ex:∃ (oc:Value) (od:Option Addr) (kV doc pm:Value) (an:Option Addr) (cdv ct:Value) (osl:Array (Option Value)),
  fd=W.fnOf x qual (dG st) (dh st) (ax st) .none kV doc pm an cdv ct/\K.lookup f=some ⟨oc,od,.func fd,osl⟩/\W.codeIn K cdv qual=true
 kp:W.keepIn K (.ref f)=true
theorem Fun.ok{f:Addr}{k:Nat}(F:Fun K x qual st f fd)(S:aB N ps (ax st))(len:∀ vs H Q E,sp vs H Q E->vs.length=ps.length)(hbody:∀ (cdv:Value) (A:Around) (outer:List Env) (s:Shared) (H:Hp) (vs:List V) (Q:VK) (E:XK),Room k (A.deeper (envOfC qual (ax st) s.heap.objs.size f cdv))->sp vs H Q E->
   ∃ t,PSs (cX CX0 P w K mg base N qual (ax st) f cdv A outer s H E).nox (dh st) t/\t { nx:=λ _ H'=>Q .non H',rt:=Q } (gk N vs) H):FnOk P w K mg base CX0 (k+1) f fd ps sp:=by
 obtain ⟨oc,od,kV,doc,pm,an,cdv,ct,osl,rfl,lk,hcd⟩:=F.ex;refine uO lk hcd S len λ A outer s H vs Q E hr hsp=>?_;obtain ⟨t,h,q⟩:=hbody cdv A outer s H vs Q E hr hsp;exact ⟨t,h.nox,q⟩
theorem Fun.binds{f:Addr}(F:Fun K x qual st f fd)(h:∀ (kV doc pm:Value) (an:Option Addr) (cdv ct:Value) (us:List Value),us.length=ps.length->bindArgs (W.fnOf x qual (dG st) (dh st) (ax st) .none kV doc pm an cdv ct) ⟨us,[]⟩=pure (ps.zip us)):Binds K fd ps []:=by
 obtain ⟨oc,od,kV,doc,pm,an,cdv,ct,osl,rfl,lk,hcd⟩:=F.ex;exact .all (h kV doc pm an cdv ct)
theorem ni{f:Addr}{kV:Value}(l:K.lookup f=some ⟨oc,od,.func (W.fnOf x qual (dG st) (dh st) (ax st) .none kV doc pm an cdv ct),osl⟩)(c:W.codeIn K cdv qual=true)(k:W.keepIn K (.ref f)=true):Fun K x qual st f (W.fnOf x qual (dG st) (dh st) (ax st) .none kV doc pm an cdv ct):=⟨⟨oc,od,kV,doc,pm,an,cdv,ct,osl,rfl,l,c⟩,k⟩
theorem jo{k:Nat}(hr:Room k A):A.units+1 < cLine:=Nat.lt_of_le_of_lt (Nat.add_le_add_left (by decide:1<=64) _) hr.units
theorem br(h:n<=1000):n < sizeLine:=Nat.lt_of_le_of_lt h (by decide)
theorem pv(i:Nat)(hN:X.N[i]?=some x:=by rfl)(hv:Vis X.env.scope x:=by first | exact Or.inl rfl | exact Or.inr (Or.inl rfl) | exact Or.inr (Or.inr rfl))(hd:(x == ("__debug__" : Str))=false:=by decide)(hcd:(x == ("__classdict__" : Str))=false:=by decide):PE X (.Name x pos) (cj i):=zhp hN hv hd hcd
theorem jh:CallR X (.builtin "len") (λ xs H Q=>∃ a kvs,xs=[V.ref a]/\H a=some (.dK kvs)/\Q (.int kvs.length) H):=by
 intro pins s σ H xs us Q I r h;obtain ⟨a,kvs,rfl,ha,q⟩:=h;obtain ⟨u,rfl,ru⟩:=d7 r;cases ru;exact um I (.inl ha) λ t s' I'=>⟨.int kvs.length,H,I',⟨t,rfl⟩,q⟩
theorem ay{A:Prop}(h:B):if false=true then A else B:=by
 rw [if_neg bz];exact h
theorem aE{A:Prop}(h:A):if true=true then A else B:=by
 rw [if_pos rfl];exact h
theorem zdf{c A:Prop}[Decidable c](h1:c->A)(h2:¬ c->B):if c then A else B:=by
 by_cases h:c
 ·rw [if_pos h];exact h1 h
 ·rw [if_neg h];exact h2 h
noncomputable def Same(H H':Hp):Prop:=∀ b o,H b=some o->H' b=some o
theorem Same.refl(H:Hp):Same H H:=λ _ _ h=>h
theorem Same.trans(a:Same H H1)(b:Same H1 H2):Same H H2:=λ c o h=>b c o (a c o h)
theorem Same.free(e:Same H H'){l:Addr}(h:H' l=Option.none):H l=Option.none:=by
 cases q:H l with
 | none=>rfl
 | some o=>
  rw [e l o q] at h;cases h
theorem Same.seq{xs:List V}(e:Same H H')(h:SqL K H a xs):SqL K H' a xs:=by
 rcases h with (h | ⟨o,h⟩) | h
 ·exact .inl (.inl (e _ _ h))
 ·exact .inl (.inr ⟨o,e _ _ h⟩)
 ·exact .inr h
section
variable [DecidableEq κ]
theorem zj9{kvs:List (κ × V)}{k:κ}(h:ba kvs k=none):¬ k∈kvs.map (·.1):=by
 intro m;obtain ⟨p,hp,e⟩:=List.mem_map.mp m;have q:(kvs.any λ kv=>decide (kv.1=k))=true:=List.any_eq_true.mpr ⟨p,hp,aN e⟩;rw [lF,h] at q;exact absurd q (by simp)
end
noncomputable def dW(cells:List (Str × Addr)):List (Str × NameKind)->List (Str × Addr)->List (Str × Addr)
 | [],acc=>acc
 | (n,k)::r,acc=>if (k == NameKind.free)=true then dW cells r ((n,(cells.lookup n).getD 0)::acc) else dW cells r acc
theorem mY(cells:List (Str × Addr)):∀ (l:List (Str × NameKind)) (acc:List (Str × Addr)) (x:Str) (c:Addr),
  (dW cells l acc).lookup x=some c->((x,NameKind.free)∈l/\c=(cells.lookup x).getD 0)\/acc.lookup x=some c
 | [],_,_,_,h=>.inr h
 | (n,k)::r,acc,x,c,h=>by
  unfold dW at h
  split at h
  ·rename_i hk
   have hk:k=NameKind.free:=by simpa using hk
   rcases mY cells r _ x c h with ⟨m,e⟩ | e
   ·exact .inl ⟨bp _ m,e⟩
   ·rw [List.lookup_cons] at e
    split at e
    ·rename_i hx
     have hx:x=n:=by simpa using hx
     subst hx;exact .inl ⟨by rw [hk];exact bB,(Option.some.inj e).symm⟩
    ·exact .inr e
  ·rcases mY cells r acc x c h with ⟨m,e⟩ | e
   ·exact .inl ⟨bp _ m,e⟩
   ·exact .inr e
theorem kg(cells:List (Str × Addr)):∀ (l:List (Str × NameKind)) (acc:List (Str × Addr)) (x:Str),
  ((x,NameKind.free)∈l\/∃ c,acc.lookup x=some c)->∃ c,(dW cells l acc).lookup x=some c
 | [],_,_,h=>by
  rcases h with h | h
  ·cases h
  ·exact h
 | (n,k)::r,acc,x,h=>by
  unfold dW
  split
  ·rename_i hk
   refine kg cells r _ x ?_;rcases h with h | ⟨c,h⟩
   ·rcases al_mc.mp h with h | h
    ·injection h with h1 h2
     exact .inr ⟨(cells.lookup n).getD 0,by rw [h1,List.lookup_cons];simp⟩
    ·exact .inl h
   ·right;rw [List.lookup_cons]
    split
    ·exact ⟨_,rfl⟩
    ·exact ⟨c,h⟩
  ·rename_i hk
   refine kg cells r _ x ?_;rcases h with h | h
   ·rcases al_mc.mp h with h | h
    ·injection h with h1 h2
     exact absurd (by rw [← h2];rfl) hk
    ·exact .inl h
   ·exact .inr h
theorem za7(h:∀ x,(x,NameKind.free)∈scope.names->∃ c,env.cells.lookup x=some c):
  closureFor scope env=pure (dW env.cells scope.names []):=by
 have key:∀ (l:List (Str × NameKind)) (acc:List (Str × Addr)) (f:Str × NameKind->List (Str × Addr)->Sem (ForInStep (List (Str × Addr)))),
   (∀ n k cs,f (n,k) cs=if (k == NameKind.free)=true then cellOf env n >>= λ c=>pure (.yield ((n,c)::cs)) else pure (.yield cs))->
   (∀ x,(x,NameKind.free)∈l->∃ c,env.cells.lookup x=some c)->(forIn l acc f:Sem (List (Str × Addr)))=pure (dW env.cells l acc):=by
  intro l;induction l with
  | nil=>intro acc f _ _;rfl
  | cons p r ih=>
   intro acc f hf hl;obtain ⟨n,k⟩:=p;rw [List.forIn_cons,hf];unfold dW;by_cases hk:(k == NameKind.free)=true
   ·rw [if_pos hk,if_pos hk];have hk':k=NameKind.free:=by simpa using hk
    obtain ⟨c,hc⟩:=hl n (by rw [hk'];exact bB);rw [show cellOf env n=pure c from by unfold cellOf;rw [hc],pure_bind,pure_bind,hc];exact ih _ f hf λ x hx=>hl x (bp _ hx)
   ·rw [if_neg hk,if_neg hk,pure_bind];exact ih _ f hf λ x hx=>hl x (bp _ hx)
 unfold closureFor;refine (congrArg (λ t:Sem (List (Str × Addr))=>t >>= λ cs=>pure cs) (key scope.names [] _ ?_ h)).trans ?_
 ·intro n k cs;rfl
 ·rw [pure_bind]
noncomputable def sf(M:Model)(A:Around)(E:Value->Shared->Prop)(C:Addr)(x:Value)(s':Shared):Prop:=
 ∃ m,s'.heap.Ns C m/\∀ h',Heap.SameBut C s'.heap h'->∀ ce:Env,ce.locals=C->wpAny M A (passOn "comprehension.variables-let-go" x ce:Sem Value) (λ _ _=>False) E { s' with heap:=h' }
noncomputable def bh(X:Cx)(N:List Str)(scope:Scope)(C:Addr)(fp:List Addr)(s:Shared)(H:Hp):Cx where
 prog:=X.prog
 w:=X.w
 K:=X.K
 mg:=X.mg
 base:=X.base
 A:=X.A
 N:=N
 s₀:=s
 H₀:=H
 env:=compEnvC scope (dW X.env.cells scope.names []) C X.env
 outer:=X.stack
 stack:=X.stack
 ex:=fp
 fn:=λ _=>false
 calm:=X.calm
 pn:=[]
 xe:=notedBy (model X.prog X.w) X.A (compEnvC scope (dW X.env.cells scope.names []) C X.env) (sf (model X.prog X.w) X.A X.xe C)
structure CompScope (X:Cx) (N:List Str) (scope:Scope) (fr:List (Option Nat)):Prop where
 kind:scope.kind = .function
 nocell:(scope.names.all λ x=>decide (x.2≠.cell))=true
 locs:(scope.names.all λ x=>decide (x.2 = .local->scope.names.lookup x.1=some .local))=true
 free:(scope.names.all λ x=>decide (x.2 = .free->X.env.scope.names.lookup x.1=some .cell))=true
 len:fr.length=N.length
 pl:((List.range N.length).all λ i=>match fr[i]? with
  | some (some j)=>decide (X.N[j]?=N[i]?/\∃ x,N[i]?=some x/\scope.names.lookup x=some .free)
  | _=>true)=true
noncomputable def stC(fr:List (Option Nat))(σ:St):St:=fr.map λ o=>o.bind λ j=>(σ[j]?).join
noncomputable def Wk(σ σ2:St):Prop:=σ2.length=σ.length/\∀ (i:Nat) v,σ[i]?=some (some v)->σ2[i]?=some (some v)
theorem Wk.set{v:V}(h:σ[i]?=some none):Wk σ (σ.set i (some v)):=by
 refine ⟨by simp,λ j w hj=>?_⟩;by_cases e:i=j
 ·subst e;rw [h] at hj;cases hj
 ·rw [List.getElem?_set_ne e];exact hj
theorem Wk.refl(σ:St):Wk σ σ:=⟨rfl,λ _ _ h=>h⟩
theorem Wk.trans{σ σ1 σ2:St}(a:Wk σ σ1)(b:Wk σ1 σ2):Wk σ σ2:=⟨b.1.trans a.1,λ i v h=>b.2 i v (a.2 i v h)⟩
noncomputable def fN(X:Cx)(ifs:List Expr)(t:TT):Prop:=
 ∀ (pins:List (Addr × Obj)) (s:Shared) (σ:St) (H:Hp) (Q:Bool->Hp->Prop),Inv X pins σ H s->t σ H Q->
  wpAny (model X.prog X.w) X.A (forIn ifs true λ c r=>if r=true then do let ok ← isTrue c X.env (eval c X.env);pure (ForInStep.yield ok) else pure (ForInStep.yield r)) (TP X pins σ Q) X.xe s
noncomputable def yx:TT:=λ _ H Q=>Q true H
theorem bZ  : fN X [] yx:=λ _ _ _ H _ I h=>wpAny_tests_nil ⟨H,I,h⟩
theorem wG{t:TT}(h:PT X c t):fN X [c] t:=λ pins s σ H Q I q=>wpAny_tests_one (h pins s σ H Q I q)
theorem za8{target:Expr}{it acc:Value}(I:Nat->Shared->Prop)(Ex:Value->Shared->Prop)(hEx:∀ e s',Ex e s'->notedBy (model prog w) A env (λ x s''=>R (.error x) s'') e s')(turn:∀ n s,I n s->wpAny (model prog w) A (pyNext it) (λ r s₁=>match r with
   | none=>R (.ok .next) s₁
   | some v=>wpAny (model prog w) A (letOwnedTupleGo target it v) (λ _ s₁'=>wpAny (model prog w) A (assign target env v) (λ _ s₂=>
     wpAny (model prog w) A (forIn ifs true λ c r=>if r=true then do let ok ← isTrue c env (eval c env);pure (ForInStep.yield ok) else pure (ForInStep.yield r)) (λ ok s₃=>
      if ok=true then wpAny (model prog w) A (eval elt env) (λ x s₄=>
       wpAny (model prog w) A (call (.builtin "list.append") [acc,x]) (λ _ s₅=>∃ m,m < n/\I m s₅) Ex s₄) Ex s₃
      else ∃ m,m < n/\I m s₃) Ex s₂) Ex s₁') Ex s₁) Ex s)(n:Nat)(h:I n s):
  codeAny (model prog w) A (.compLoop (.ListComp elt [⟨target,iter,ifs,0⟩] scope pos) 0 it acc env) R s:=by
 refine codeAny_loop rfl I (λ n s hI=>?_) n h;show wpAny _ A ((compTurn (.ListComp elt [⟨target,iter,ifs,0⟩] scope pos) 0 it acc env).onRaise (λ x=>do noteFrame x env;theTreesLotGoes x)) _ _ s;refine wpAny_noted (wpAny_mono (E:=Ex) ?_ (λ _ _ q=>q) hEx);rw [compTurn_list];refine af (wpAny_standAt (af (wpAny_mono (turn n s hI) (λ r s₁ h₁=>?_) λ _ _ h'=>h')));cases r with
 | none=>exact aG h₁
 | some v=>
  refine af (wpAny_mono h₁ (λ _ s₁' h₁'=>?_) λ _ _ h'=>h');refine af (wpAny_mono h₁' (λ _ s₂ h₂=>af (wpAny_mono h₂ (λ ok s₃ h₃=>?_) λ _ _ h'=>h')) λ _ _ h'=>h');cases ok with
  | false=>exact aG ⟨rfl,h₃⟩
  | true=>
   exact af (af (wpAny_mono h₃ (λ x s₄ h₄=>af (wpAny_mono h₄ (λ _ s₅ h₅=>aG (aG ⟨rfl,h₅⟩)) λ _ _ h'=>h')) λ _ _ h'=>h'))
theorem vz{env:Env}:∀ {names:List (Str × NameKind)} {x:Str},names.lookup x=some .free->
  (names.map λ (n,k)=>if (k == NameKind.free && env.scope.kind == .function && env.kindOf n == some .cell) then (n,NameKind.cell) else (n,k)).lookup x=some .cell\/
  (names.map λ (n,k)=>if (k == NameKind.free && env.scope.kind == .function && env.kindOf n == some .cell) then (n,NameKind.cell) else (n,k)).lookup x=some .free
 | [],_,h=>by simp at h
 | (n,k)::r,x,h=>by
  have ih:=@vz env r x;rw [List.map_cons];rw [List.lookup_cons] at h;by_cases hx:x=n
  ·subst hx;have hk:k = .free:=by simpa using h
   subst hk;dsimp only
   split
   ·left;simp
   ·right;simp
  ·have hb:(x == n)=false:=by simpa using hx
   rw [hb] at h;rcases ih h with q | q
   ·left;dsimp only
    split <;> (rw [List.lookup_cons,hb];exact q)
   ·right;dsimp only
    split <;> (rw [List.lookup_cons,hb];exact q)
theorem vA{env:Env}:∀ {names:List (Str × NameKind)} {x:Str},
    ((names.map λ (n,k)=>if (k == NameKind.free && env.scope.kind == .function && env.kindOf n == some .cell) then (n,NameKind.cell) else (n,k)).lookup x=some .cell\/
     (names.map λ (n,k)=>if (k == NameKind.free && env.scope.kind == .function && env.kindOf n == some .cell) then (n,NameKind.cell) else (n,k)).lookup x=some .free)->
    (x,NameKind.free)∈names\/(x,NameKind.cell)∈names
  | [],_,h=>by simp at h
  | (n,k)::r,x,h=>by
    have ih:=@vA env r x;rw [List.map_cons] at h;by_cases hx:x=n
    · subst hx
      dsimp only at h
      split at h
      · rename_i hk
        simp at hk;exact .inl (by rw [hk.1.1];exact bB)
      · simp at h
        rcases h with h | h
        · exact .inr (by rw [h];exact bB)
        · exact .inl (by rw [h];exact bB)
    · have hb:(x == n)=false:=by simpa using hx
      have:(r.map λ (n,k)=>if (k == NameKind.free && env.scope.kind == .function && env.kindOf n == some .cell) then (n,NameKind.cell) else (n,k)).lookup x=some .cell\/
          (r.map λ (n,k)=>if (k == NameKind.free && env.scope.kind == .function && env.kindOf n == some .cell) then (n,NameKind.cell) else (n,k)).lookup x=some .free:=by
        dsimp only at h
        split at h <;> (rw [List.lookup_cons,hb] at h;exact h)
      rcases ih this with q | q
      · exact .inl (bp _ q)
      · exact .inr (bp _ q)
theorem CompScope.cell{fr:List (Option Nat)}(S:CompScope X N scope fr):∀ x∈scope.names,x.2≠.cell:=λ x hx=>
 of_decide_eq_true (List.all_eq_true.mp S.nocell x hx)
theorem CompScope.loc{fr:List (Option Nat)}(S:CompScope X N scope fr):∀ x∈scope.names,x.2 = .local->scope.names.lookup x.1=some .local:=λ x hx=>
 of_decide_eq_true (List.all_eq_true.mp S.locs x hx)
theorem CompScope.fre{fr:List (Option Nat)}(S:CompScope X N scope fr):∀ x,(x,NameKind.free)∈scope.names->X.env.scope.names.lookup x=some .cell:=λ x hx=>
 of_decide_eq_true (List.all_eq_true.mp S.free _ hx) rfl
theorem CompScope.get{fr:List (Option Nat)}(S:CompScope X N scope fr)(h:fr[i]?=some (some j))(hx:N[i]?=some x):
  X.N[j]?=some x/\scope.names.lookup x=some .free:=by
 have hi:i < N.length:=(al_gs.mp hx).1;have q:=List.all_eq_true.mp S.pl i (List.mem_range.mpr hi);rw [h] at q;obtain ⟨a,y,b,c⟩:=of_decide_eq_true q;rw [hx] at a b;cases b;exact ⟨a,c⟩
theorem zbf{fr:List (Option Nat)}{h₁:Heap}{oD:Obj}{m:Str->Option Value}(S:CompScope X N scope fr)(I:Inv X pins σ H s2)(f2:∀ b∈fp,eQ X pins H b)(hfp:∀ b∈fp,b < s2.heap.objs.size)(old:∀ b o,s2.heap.get? b=some o->h₁.get? b=some o)(hD:h₁.get? s2.heap.objs.size=some oD)(hDd:∀ v,oD.data≠.cell v)(hns:h₁.Ns (s2.heap.objs.size+1) m):
  Inv (bh X N scope (s2.heap.objs.size+1) fp s2 H) [(s2.heap.objs.size,oD)] (stC fr σ) H { s2 with heap:=h₁,toks:=t' }:=by
 have hcl:∀ x c,(dW X.env.cells scope.names []).lookup x=some c->X.env.cells.lookup x=some c:=λ x c e=>by
  rcases mY _ _ _ x c e with ⟨m,q⟩ | q
  ·obtain ⟨c',hc'⟩:=I.ok.has x (.inl (S.fre x m));rw [hc'] at q ⊢;rw [q];rfl
  ·cases q
 have frS:∀ b∈frs X.stack,b≠s2.heap.objs.size+1/\b≠s2.heap.objs.size:=λ b hb=>by
  obtain ⟨_,o,ho,_⟩:=I.stack.mem hb;have:=Heap.lt_size ho;exact ⟨Nat.ne_of_lt (Nat.lt_succ_of_lt this),Nat.ne_of_lt this⟩
 have celllt:∀ x c,X.env.cells.lookup x=some c->c < s2.heap.objs.size:=λ x c e=>by
  obtain ⟨v,q⟩:=I.cell x c e;exact q.lt
 refine ⟨⟨I.ok.mod,S.kind,I.ok.glob,I.ok.blt,Nat.le_succ _,λ x y c h1 h2=>I.ok.inj x y c (hcl x c h1) (hcl y c h2),λ x hx=>?_,λ x c hf=>Bool.noConfusion hf,I.ok.hd,I.ok.frames,.inl rfl,λ b hb=>⟨?_,λ x c e=>?_⟩,
   I.bs,Nat.le_trans I.ok.bsz I.sz,λ b o e hb=>?_,λ b hb hs=>?_,I.stack,I.stkFree⟩,
  rfl,I.bare,Un.kept old,⟨m,hns,λ i x v h1 h2 h3=>?_⟩,λ x c e=>?_,I.hok.fresh (Nat.le_succ _),λ x c e=>I.freeC x c (hcl x c e),λ p hp=>?_,I.hok.kept old,?_⟩
 ·refine kg _ _ _ x (.inl ?_);rcases vA hx with q | q
  ·exact q
  ·exact absurd rfl (S.cell _ q)
 ·have:=hfp b hb;exact Nat.ne_of_lt (Nat.lt_succ_of_lt this)
 ·exact (f2 b hb).2.2.2.2.1 x c (hcl x c e)
 ·have q:=f2 b hb;rcases q.2.2.2.1 with z | z
  ·exact I.ok.noex b o e z
  ·have:=(I.ok.bs b o e).1;exact absurd (Nat.lt_of_lt_of_le (Heap.lt_size this) z) (Nat.lt_irrefl _)
 ·rcases al_mc.mp (I.stkSub b hs) with z | z
  ·exact (f2 b hb).2.1 z
  ·exact (f2 b hb).2.2.1 z
 ·-- the names of the def around it
  unfold stC at h2;rw [aH] at h2;cases e:fr[i]? with
  | none=>rw [e] at h2;cases h2
  | some o=>
   rw [e] at h2;cases o with
   | none=>cases h2
   | some j=>
    have h2':(σ[j]?).join=some v:=Option.some.inj h2;obtain ⟨a,b⟩:=S.get e h1;have hσ:σ[j]?=some (some v):=by
     cases q:σ[j]? with
     | none=>rw [q] at h2';cases h2'
     | some o=>rw [q] at h2';cases o with
      | none=>cases h2'
      | some w=>cases h2';rfl
    have hfree:(x,NameKind.free)∈scope.names:=PySem.mem_of_lookup b;have hk:=S.fre x hfree;obtain ⟨mX,hnX,hlX⟩:=I.loc;obtain ⟨u,r,l⟩:=hlX j x v a hσ (.inr (.inl hk));refine ⟨u,r,.inr ⟨?_,?_⟩⟩
    ·exact vz b
    ·rcases l with ⟨k,_⟩ | ⟨_,c,ec,z⟩
     ·have k':X.env.scope.names.lookup x=some .local:=k;rw [hk] at k';cases k'
     ·obtain ⟨c',hc'⟩:=kg X.env.cells scope.names [] x (.inl hfree);have:=hcl x c' hc';rw [ec] at this;cases this;obtain ⟨o,ho,hd⟩:=z;exact ⟨c,hc',o,old c o ho,hd⟩
 ·obtain ⟨v,o,ho,hd⟩:=I.cell x c (hcl x c e);exact ⟨v,o,old c o ho,hd⟩
 ·have e:p=(s2.heap.objs.size,oD):=by simpa [bh] using hp
  subst e;refine ⟨hD,I.hok.fresh (Nat.le_refl _),?_,λ z=>(frS _ z).2 rfl,hDd⟩;exact Nat.ne_of_lt (Nat.lt_succ_self _)
 ·unfold stC;rw [aj];exact S.len
theorem zbe{σc:St}{k:Nat}(I:Inv X pins σ H s2)(f2:∀ b∈fp,eQ X pins H b)(I':Inv (bh X N scope (s2.heap.objs.size+1) fp s2 H) [(s2.heap.objs.size,{ cls:=.type "list", data:=.seq its.toArray k })] σc H' s')(rv:Vals acc its)(hz:acc.length<=sizeLine):
  Inv X pins σ (upd H' s2.heap.objs.size (.lst acc)) s':=by
 obtain ⟨hp1,hp2,hp3,hp4,_⟩:=I'.pin (s2.heap.objs.size,{ cls:=.type "list", data:=.seq its.toArray k }) (by simp [bh]);have hp1:s'.heap.get? s2.heap.objs.size=some { cls:=.type "list", data:=.seq its.toArray k }:=hp1;have hp2:H' s2.heap.objs.size=none:=hp2;have ne:∀ b o,s2.heap.get? b=some o->b≠s2.heap.objs.size:=λ b o e=>Nat.ne_of_lt (Heap.lt_size e);have neH:∀ b o,H b=some o->b≠s2.heap.objs.size:=λ b o e=>Nat.ne_of_lt (I.hok.lt e);have B:=I'.base;have u:Un (frs X.stack) fp H (upd H' s2.heap.objs.size (.lst acc)) s2.heap s'.heap:=
  ⟨B.keep,B.slot,λ b o e n hx=>by rw [ag (ne b o e)];exact B.free b o e n hx,B.there,λ b xs e=>by rw [ag (neH b _ e)];exact B.tups b xs e,
   λ b o w e=>by rw [ag (neH b _ e)];exact B.frzs b o w e,λ b ps e=>by rw [ag (neH b _ e)];exact B.tbls b ps e⟩
 have hok:HOk X.prog X.w (upd H' s2.heap.objs.size (.lst acc)) s'.heap:=λ b o e=>by
  by_cases hb:b=s2.heap.objs.size
  ·subst hb;rw [ah] at e;cases e;exact ⟨hz,its,k,rv,hp1⟩
  ·rw [ag hb] at e;exact (I'.hok b o e).stay (λ c w _ q=>q) (λ c q=>by rw [ag (aF q hp2)];exact q) λ c xs q=>by rw [ag (aF q hp2)];exact q
 have os:s'.os=s2.os:=I'.os;exact I.call' os u hok I'.bare λ b hb=>⟨(f2 b hb).2.2.2.1,(f2 b hb).2.1,λ x c e=>(f2 b hb).2.2.2.2.1 x c e,λ p hp=>(f2 b hb).2.2.2.2.2 p hp⟩
noncomputable def lB(fr:List (Option Nat))(wi:TI)(g:TG)(tc:TT)(te:TE):TE:=λ σ H Q=>wi σ H λ J H1=>
  ∃ W:Nat->Nat->List V->Hp->Prop,(∃ m,W 0 m [] H1)/\∀ i m acc H,W i m acc H->
    (J.stop i H/\∀ p,H p=none->Q (.ref p) (upd H p (.lst acc)))\/
    (J.go i H/\acc.length < sizeLine/\∀ x H',J.yld i H x H'->g x (stC fr σ) H' λ σ2 H2=>Wk (stC fr σ) σ2/\tc σ2 H2 λ b H3=>
       if b=true then te σ2 H3 λ y H4=>∃ m',m' < m/\W (i+1) m' (acc++[y]) H4 else ∃ m',m' < m/\W (i+1) m' acc H3)
theorem ug{fr:List (Option Nat)}{tn:Nat->Heap->Prop}{W:Nat->Nat->List V->Hp->Prop}{m0:Nat}{RR:Value->Addr->Result->Shared->Prop}(S:CompScope X N scope fr)(hc:X.calm=true)(hb:PG (bh X N scope (s2.heap.objs.size+1) fp s2 H2) tg g/\fN (bh X N scope (s2.heap.objs.size+1) fp s2 H2) ifs tc/\PE (bh X N scope (s2.heap.objs.size+1) fp s2 H2) elt te)(I2:Inv X pins σ H2 s2)(T:fO X.prog X.w X.K tg J fp it tn)(st2:tn 0 s2.heap)(f2:∀ b∈fp,eQ X pins H2 b)(w0:W 0 m0 [] H2)(turn:∀ i m acc H,W i m acc H->(J.stop i H/\Qe acc H)\/
      (J.go i H/\acc.length < sizeLine/\∀ x H',J.yld i H x H'->g x (stC fr σ) H' λ σ2 H2=>Wk (stC fr σ) σ2/\tc σ2 H2 λ b H3=>
       if b=true then te σ2 H3 λ y H4=>∃ m',m' < m/\W (i+1) m' (acc++[y]) H4 else ∃ m',m' < m/\W (i+1) m' acc H3))(hRR:∀ s' acc H' m,Inv X pins σ (upd H' s2.heap.objs.size (.lst acc)) s'->s'.heap.Ns (s2.heap.objs.size+1) m->H' s2.heap.objs.size=none->H' (s2.heap.objs.size+1)=none->Qe acc H'->RR (.ref s2.heap.objs.size) (s2.heap.objs.size+1) (.ok .next) s')(hRE:∀ x s',sf (model X.prog X.w) X.A X.xe (s2.heap.objs.size+1) x s'->RR (.ref s2.heap.objs.size) (s2.heap.objs.size+1) (.error x) s'):
    wpAny (model X.prog X.w) X.A (newList []) (λ acc s₃=>wpAny (model X.prog X.w) X.A (newFunctionEnv scope X.env.globals (dW X.env.cells scope.names []) [] X.env.qual none .none (some X.env)) (λ cenv s₄=>
      codeAny (model X.prog X.w) X.A (.compStart (.ListComp elt [⟨tg,iter,ifs,0⟩] scope pos) 0 (.ref it) acc { cenv with scope:=relabel scope X.env }) (RR acc cenv.locals) s₄) E s₃) E s2:=by
  refine wpAny_newObj_type (wpAny_newFunctionEnv S.cell (by intro y hy;simp at hy) (λ h₁ hns₁ hsb₁=>?_) S.kind);dsimp only at hns₁ hsb₁ ⊢;rw [Heap.size_push] at hns₁ hsb₁ ⊢;have hfp:∀ b∈fp,b < s2.heap.objs.size:=λ b hb'=>by
    obtain ⟨o,ho,_⟩:=T.obj 0 _ st2 b hb';exact Heap.lt_size ho
  have old:∀ b o,s2.heap.get? b=some o->h₁.get? b=some o:=λ b o e=>
    hsb₁.extBut b o (Nat.ne_of_lt (Nat.lt_succ_of_lt (Heap.lt_size e))) (aY _ (aY _ e))
  have hD:h₁.get? s2.heap.objs.size=some { cls:=.type "list", data:=.seq ([]:List Value).toArray 0 }:=
    hsb₁.extBut _ _ (Nat.ne_of_lt (Nat.lt_succ_self _)) (aY _ (Heap.get?_push_size _ rfl))
  have I₁:=zbf (t':=s2.toks+([]:List (Str × Value)).length) S I2 f2 hfp old hD (λ v=>by intro z;cases z) hns₁;have st₁:tn 0 h₁:=T.keep 0 _ _ st2 λ b _ o e=>old b o e;have loop:codeAny (model X.prog X.w) X.A (.compLoop (.ListComp elt [⟨tg,iter,ifs,0⟩] scope pos) 0 (.ref it) (.ref s2.heap.objs.size) (bh X N scope (s2.heap.objs.size+1) fp s2 H2).env)
      (RR (.ref s2.heap.objs.size) (s2.heap.objs.size+1)) { s2 with heap:=h₁,toks:=s2.toks+([]:List (Str × Value)).length }:=by
    refine za8 (λ n s'=>∃ i acc H' its k,Inv (bh X N scope (s2.heap.objs.size+1) fp s2 H2) [(s2.heap.objs.size,{ cls:=.type "list", data:=.seq its.toArray k })] (stC fr σ) H' s'/\
      Vals acc its/\acc.length<=sizeLine/\tn i s'.heap/\(∀ b∈fp,H' b=none)/\W i n acc H')
      (bh X N scope (s2.heap.objs.size+1) fp s2 H2).xe (λ e s' q=>wpAny_mono q (λ _ _ q=>hRE _ _ q) λ _ _ q=>hRE _ _ q) ?_ m0
      ⟨0,[],H2,[],0,I₁,.nil,Nat.zero_le _,st₁,λ b hb'=>(f2 b hb').1,w0⟩
    rintro n s3 ⟨i,acc,H3,its,k,I3,rv,hz,st3,fr3,w3⟩;have neD:∀ b∈fp,s2.heap.objs.size≠b:=λ b hb'=>Nat.ne_of_gt (hfp b hb');have stat:∀ {H':Hp} {ob:Obj},(∀ b∈fp,H' b=none)->∀ b∈fp,eQ (bh X N scope (s2.heap.objs.size+1) fp s2 H2) [(s2.heap.objs.size,ob)] H' b:=λ {H' ob} hn b hb'=>
      ⟨hn b hb',(I₁.ok.exf b hb').1,I₁.ok.exfs b hb',.inl hb',(I₁.ok.exf b hb').2,λ p hp=>by
        have e:p=(s2.heap.objs.size,ob):=by simpa [bh] using hp
        subst e;exact neD b hb'⟩
    obtain ⟨hb1,hb2,hb3⟩:=hb;rcases turn i n acc H3 w3 with ⟨stop,qn⟩ | ⟨go,hlen,step⟩
    · refine wpAny_mono (T.done (bh X N scope (s2.heap.objs.size+1) fp s2 H2) rfl rfl rfl hc i _ s3 _ H3 (bh X N scope (s2.heap.objs.size+1) fp s2 H2).xe I3 (stat fr3) st3 stop) (λ r s4 ⟨hr,I4⟩=>?_) λ _ _ x=>x
      subst hr;obtain ⟨mC,hnC,_⟩:=I4.loc;exact hRR s4 acc H3 mC (zbe I2 f2 I4 rv hz) hnC (I4.pin (s2.heap.objs.size,{ cls:=.type "list", data:=.seq its.toArray k }) (by simp [bh])).2.1 I4.free qn
    · refine wpAny_mono (T.item (bh X N scope (s2.heap.objs.size+1) fp s2 H2) rfl rfl rfl hc i _ s3 _ H3 (bh X N scope (s2.heap.objs.size+1) fp s2 H2).xe I3 (stat fr3) st3 go) (λ r s4 ⟨u,hr,h4⟩=>?_) λ _ _ x=>x
      subst hr;refine wpAny_mono h4 (λ _ s5 ⟨x,H5,I5,r5,y5,st5,fr5⟩=>?_) λ _ _ x=>x;have I5':=I5.pinned (stat fr5) (T.obj _ _ st5);refine wpAny_mono (hb1 _ s5 _ H5 x u _ I5' r5 (step x H5 y5)) (λ _ s6 ⟨σ6,H6,I6,wk,q6⟩=>?_) λ _ _ x=>x;refine wpAny_mono (hb2 _ s6 σ6 H6 _ I6 q6) (λ b s7 ⟨H7,I7,q7⟩=>?_) λ _ _ x=>x;have tn_of:∀ {s8:Shared} {H8:Hp},Inv (bh X N scope (s2.heap.objs.size+1) fp s2 H2) ([(s2.heap.objs.size,{ cls:=.type "list", data:=.seq its.toArray k })]++jz fp s5.heap) σ6 H8 s8->tn (i+1) s8.heap/\∀ b∈fp,H8 b=none:=λ {s8 H8} I8=>by
        refine ⟨T.keep _ _ _ st5 λ b hb' o e=>(I8.pin (b,o) (List.mem_append_right _ (List.mem_append_right _ (kE hb' e)))).1,λ b hb'=>?_⟩;obtain ⟨o,e,d⟩:=T.obj _ _ st5 b hb';exact (I8.pin (b,o) (List.mem_append_right _ (List.mem_append_right _ (kE hb' e)))).2.1
      cases b with
      | false=>
        rw [if_neg bz] at q7 ⊢;obtain ⟨m',hm,w7⟩:=q7;obtain ⟨t7,f7⟩:=tn_of I7;exact ⟨m',hm,i+1,acc,H7,its,k,(I7.unpinned).weak wk.1.symm wk.2,rv,hz,t7,f7,w7⟩
      | true=>
        rw [if_pos rfl] at q7 ⊢;refine wpAny_mono (hb3 _ s7 σ6 H7 _ I7 q7) (λ y s8 ⟨yv,H8,I8,ry,m',hm,w8⟩=>?_) λ _ _ x=>x;obtain ⟨t8,f8⟩:=tn_of I8;obtain ⟨e8,n8,l8,nf8,d8⟩:=I8.pin (s2.heap.objs.size,{ cls:=.type "list", data:=.seq its.toArray k }) (by simp [bh]);have e8:s8.heap.get? s2.heap.objs.size=some { cls:=.type "list", data:=.seq its.toArray k }:=e8;have hl:acc.length=its.length:=rv.length;refine call_meets F.slot_list_append ⟨_,e8,rfl⟩ F.entry_list_append (F.args_list_append_2 _ _) (PySem.list_append s2.heap.objs.size its.toArray k y (by rw [a9];omega)) ⟨e8,?_⟩;have q:=PySem.IsL.update e8 (·.push y);have q':(s8.heap.update s2.heap.objs.size (Obj.mapSeq (·.push y))).get? s2.heap.objs.size=some { cls:=.type "list", data:=.seq (its++[y]).toArray (k+1) }:=by
          first
            | simpa using q
            | (rw [q];simp)
        have oth:∀ b o,b≠s2.heap.objs.size->s8.heap.get? b=some o->(s8.heap.update s2.heap.objs.size (Obj.mapSeq (·.push y))).get? b=some o:=λ b o hb' e=>
          (Heap.get?_update_other s8.heap _ (Ne.symm hb')).trans e
        have I8a:Inv (bh X N scope (s2.heap.objs.size+1) fp s2 H2) [] σ6 H8 s8:=I8.pins_of λ p hp=>absurd hp (by simp [bh]);have I9:=I8a.turned (t':=s8.toks) oth n8 l8 (.inr (Nat.le_refl _)) (λ x c e z=>by
          obtain ⟨v,o,ho,hd⟩:=I8a.cell x c e;rw [z,e8] at ho;cases ho;cases hd) (λ p hp=>absurd hp (by simp [bh]))
        have I10:Inv (bh X N scope (s2.heap.objs.size+1) fp s2 H2) [(s2.heap.objs.size,{ cls:=.type "list", data:=.seq (its++[y]).toArray (k+1) })] σ6 H8 _:=I9.pins_of λ p hp=>by
          have e:p=(s2.heap.objs.size,{ cls:=.type "list", data:=.seq (its++[y]).toArray (k+1) }):=by simpa [bh] using hp
          subst e;exact ⟨q',n8,l8,nf8,λ v=>by intro z;cases z⟩
        refine ⟨m',hm,i+1,acc++[yv],H8,its++[y],k+1,I10.weak wk.1.symm wk.2,rv.append (.cons ry .nil),by rw [aO,cn];omega,?_,f8,w8⟩;exact T.keep _ _ _ t8 λ b hb' o e=>oth b o (Ne.symm (neD b hb')) e
  exact codeAny_compStart_list loop (T.self _ 0 _ _ _ st₁ loop)
theorem CompScope.clos{fr:List (Option Nat)}(S:CompScope X N scope fr)(I:Inv X pins σ H s):closureFor scope X.env=pure (dW X.env.cells scope.names []):=
 za7 λ x hx=>I.ok.has x (.inl (S.fre x hx))
theorem uh{σ₀:St}(I:Inv X pins σ₀ H s2)(I':Inv X pins σ H' s')(hC:H' (s2.heap.objs.size+1)=none)(hs:Heap.SameBut (s2.heap.objs.size+1) s'.heap h'):Inv X pins σ H' { s' with heap:=h' }:=by
 obtain ⟨f1,f2,f3,f4,f5,f6⟩:=I.fpOk (H':=H') (b:=s2.heap.objs.size+1) (Nat.le_succ _) hC;exact I'.turned (t':=s'.toks) (λ b o hb e=>(hs.2 b hb).trans e) hC f2 f4 f5 f6
noncomputable def sR(CX:CXT)(X:Cx)(N:List Str)(scope:Scope)(E:XK):Prop:=∀ (fp:List Addr) (s:Shared) (H:Hp) (pins:List (Addr × Obj)) (σ:St),Inv X pins σ H s->(∀ b∈fp,eQ X pins H b)->
 c9 CX (bh X N scope (s.heap.objs.size+1) fp s H) E
theorem zhl{E:XK}{fr:List (Option Nat)}(S:CompScope X N scope fr)(hc:X.calm=true)(hp:sR CX X N scope E)(hi:PI X tg iter wi)(hb:∀ C fp s H,c9 CX (bh X N scope C fp s H) E->PG (bh X N scope C fp s H) tg g/\fN (bh X N scope C fp s H) ifs tc/\PE (bh X N scope C fp s H) elt te)(hs:∀ x,foldedSetIterable iter X.env x=pure x:=by intro _;rfl):
  PE X (.ListComp elt [⟨tg,iter,ifs,0⟩] scope pos) (lB fr wi g tc te):=by
 intro pins s σ H Q I h;rw [eval_ListComp];refine wpAny_comprehension_free (use:=none) rfl hs (S.clos I) S.kind S.loc (thn (hi pins s σ H _ I h) λ v s1 h1=>thn h1 λ itv s2 h2=>?_);obtain ⟨it,fp,tn,J,H2,e,I2,T,st2,f2,W,⟨m0,w0⟩,turn⟩:=h2;subst e;refine ug (Qe:=λ acc H=>∀ p,H p=none->Q (.ref p) (upd H p (.lst acc))) (RR:=λ acc C=>compPost (model X.prog X.w) X.A X.xe none (EP X pins σ Q) acc C) S hc (hb _ _ _ _ (hp fp s2 H2 pins σ I2 f2)) I2 T st2 f2 w0 turn ?_ λ x s' q=>q;intro s' acc H' m I' hn hD hC q;refine ⟨m,hn,λ h' hs'=>⟨.ref s2.heap.objs.size,_,uh I2 I' ?_ hs',rfl,q _ hD⟩⟩;rw [ag (Nat.ne_of_gt (Nat.lt_succ_self _))];exact hC
theorem kW{fr:List (Option Nat)}(S:CompScope X N scope fr)(hc:X.calm=true)(hi:PI X tg iter wi)(hb:∀ C fp s H,PG (bh X N scope C fp s H) tg g/\fN (bh X N scope C fp s H) ifs tc/\PE (bh X N scope C fp s H) elt te)(hs:∀ x,foldedSetIterable iter X.env x=pure x:=by intro _;rfl):
  PE X (.ListComp elt [⟨tg,iter,ifs,0⟩] scope pos) (lB fr wi g tc te):=
 zhl (CX:=λ _ _ _ _ _ _=>False) (E:=λ _ _ _=>False) S hc (λ _ _ _ _ _ _ _ _ _ _ _ _ _ _ q=>q.elim) hi (λ C fp s H _=>hb C fp s H) hs
theorem zhA{E:XK}{y:Str}{fr:List (Option Nat)}(hN:X.N.Nodup)(hi':X.N[i]?=some y)(hx:Loc X.env.scope y)(S:CompScope X N scope fr)(hc:X.calm=true)(hp:sR CX X N scope E)(hi:PI X tg iter wi)(hb:∀ C fp s H,c9 CX (bh X N scope C fp s H) E->PG (bh X N scope C fp s H) tg g/\fN (bh X N scope C fp s H) ifs tc/\PE (bh X N scope C fp s H) elt te)(hsw:swapsWith (.ListComp elt [⟨tg,iter,ifs,0⟩] scope pos) (some (.Name y py)) spos.line X.env=pure true:=by rfl)(hf:X.fn y=true\/X.env.scope.names.lookup y=some .local:=by first | exact .inl rfl | exact .inr rfl | assumption)(hs:∀ x,foldedSetIterable iter X.env x=pure x:=by intro _;rfl):
  PS X (.Assign [.Name y py] (.ListComp elt [⟨tg,iter,ifs,0⟩] scope pos) spos) (jR (lB fr wi g tc te) (cR i)):=by
 intro pins s σ H D I h;rw [exec_Assign_Name_used _ _ _ _ hsw];refine af (wpAny_standAt (af ?_));show wpAny _ X.A (do let _ ← comprehension (.ListComp elt [⟨tg,iter,ifs,0⟩] scope pos) scope X.env _ (newList []) false (eval iter X.env) (some (assign (.Name y py) X.env))) _ _ s;refine af (wpAny_mono (wpAny_comprehension_free (use:=some (assign (.Name y py) X.env)) (Q:=λ _ s'=>SP X pins D .next s') rfl hs (S.clos I) S.kind S.loc
  (thn (hi pins s σ H _ I h) λ v s1 h1=>thn h1 λ itv s2 h2=>?_)) (λ _ s' hq=>aG (aG hq)) λ _ _ e=>e)
 obtain ⟨it,fp,tn,J,H2,e,I2,T,st2,f2,W,⟨m0,w0⟩,turn⟩:=h2;subst e;refine ug (Qe:=λ acc H=>∀ p,H p=none->cR i (.ref p) σ (upd H p (.lst acc)) D.nx) (RR:=λ acc C=>compPost (model X.prog X.w) X.A X.xe (some (assign (.Name y py) X.env)) (λ _ s'=>SP X pins D .next s') acc C) S hc (hb _ _ _ _ (hp fp s2 H2 pins σ I2 f2)) I2 T st2 f2 w0 turn ?_ λ x s' q=>q;intro s' acc H' m I' hn hD hC q;show wpAny _ X.A (assign (.Name y py) X.env (.ref s2.heap.objs.size)) _ _ _;refine wpAny_assign_Name (yh (v:=.ref s2.heap.objs.size) I' hN hi' hx rfl (λ s'' I'' hsb=>?_) hf);obtain ⟨a,hsb,ha⟩:=hsb;have hCa:s2.heap.objs.size+1≠a:=by
  rcases ha with ha | ha
  ·rw [ha];exact Nat.ne_of_gt (Nat.lt_succ_of_lt I2.lt)
  ·obtain ⟨v,o,ho,_⟩:=I2.cell y a ha;exact Nat.ne_of_gt (Nat.lt_succ_of_lt (Heap.lt_size ho))
 refine ⟨m,hn.sameBut hsb hCa,λ h' hs'=>⟨_,_,uh I2 I'' ?_ hs',q _ hD⟩⟩;rw [ag (Nat.ne_of_gt (Nat.lt_succ_self _))];exact hC
theorem zhz{y:Str}{fr:List (Option Nat)}(hN:X.N.Nodup)(hi':X.N[i]?=some y)(hx:Loc X.env.scope y)(S:CompScope X N scope fr)(hc:X.calm=true)(hi:PI X tg iter wi)(hb:∀ C fp s H,PG (bh X N scope C fp s H) tg g/\fN (bh X N scope C fp s H) ifs tc/\PE (bh X N scope C fp s H) elt te)(hsw:swapsWith (.ListComp elt [⟨tg,iter,ifs,0⟩] scope pos) (some (.Name y py)) spos.line X.env=pure true:=by rfl)(hf:X.fn y=true\/X.env.scope.names.lookup y=some .local:=by first | exact .inl rfl | exact .inr rfl | assumption)(hs:∀ x,foldedSetIterable iter X.env x=pure x:=by intro _;rfl):
  PS X (.Assign [.Name y py] (.ListComp elt [⟨tg,iter,ifs,0⟩] scope pos) spos) (jR (lB fr wi g tc te) (cR i)):=
 zhA (CX:=λ _ _ _ _ _ _=>False) (E:=λ _ _ _=>False) hN hi' hx S hc (λ _ _ _ _ _ _ _ _ _ _ _ _ _ _ q=>q.elim) hi (λ C fp s H _=>hb C fp s H) hsw hf hs
noncomputable def CXr(P:Program)(w:World):CXT:=λ outer H s E e s'=>
 ∃ (a:Addr) (cls a0:Value) (H':Hp) (B:Heap),e = .ref a/\s'.os=s.os/\AllBare s'.gens/\Heap.FlyingW B outer a cls a0 s'.heap/\H' a=none/\
  Un (frs outer) [] H H' s.heap s'.heap/\HOk P w H' B/\(∀ b o,s.heap.get? b=some o->b∉frs outer->∃ o',B.get? b=some o'/\(H b=none->o'=o))/\E cls none H'
theorem ObjOk.there(x:ObjOk P w H h a o):∃ ob,h.get? a=some ob:=by
 cases o with
 | lst xs=>obtain ⟨_,_,_,_,e⟩:=x;exact ⟨_,e⟩
 | tup xs=>obtain ⟨_,_,_,o,e,_⟩:=x;exact ⟨o,e⟩
 | dK kvs=>obtain ⟨_,_,_,_,o,_,_,e,_⟩:=x;exact ⟨o,e⟩
 | dT kvs=>obtain ⟨_,_,_,_,o,_,_,e,_⟩:=x;exact ⟨o,e⟩
 | set S n=>obtain ⟨o,_,_,_,e,_⟩:=x;exact ⟨o,e⟩
 | ins C dx fs=>obtain ⟨_,_,_,e,_⟩:=x;exact ⟨_,e⟩
 | own y=>exact x
 | xd fs=>obtain ⟨_,⟨o,_,_,e,_⟩,_⟩:=x;exact ⟨o,e⟩
 | rng lo hi=>obtain ⟨_,_,_,e⟩:=x;exact ⟨_,e⟩
 | frz ob u=>obtain ⟨e,_⟩:=x;exact ⟨_,e⟩
 | tbl ps=>exact ⟨_,x⟩
 | met f y=>exact ⟨_,x⟩
 | ext φ=>obtain ⟨_,e,_⟩:=x;exact e
theorem Un.fly{fs:List Addr}{B:Heap}(u:Un fs [] H H' h h1)(hB:B.StaysIn h2)(hu:h1.UpToSlots h2)(cond:∀ b o,h.get? b=some o->b∉fs->∃ o',B.get? b=some o'/\(H b=none->o'=o))(hf:∀ b∈fs,∃ o,h1.get? b=some o/\∀ vs,o.data≠.fields vs):Un fs [] H H' h h2 where
 keep:=λ b o e n hb _=>by
  obtain ⟨o',e',q⟩:=cond b o e hb;rw [← q n];exact hB b o' e'
 slot:=λ b o e n hb hx=>by
  obtain ⟨sl,e1⟩:=u.slot b o e n hb hx;obtain ⟨o1,e1',nf⟩:=hf b hb;rw [e1] at e1';cases e1';obtain ⟨sl2,e2⟩:=hu b _ e1 nf;exact ⟨sl2,e2⟩
 free:=u.free
 there:=λ b o e hx=>by
  by_cases hb:b∈fs
  ·obtain ⟨o1,e1,nf⟩:=hf b hb;obtain ⟨sl2,e2⟩:=hu b _ e1 nf;exact ⟨_,e2⟩
  ·obtain ⟨o',e',_⟩:=cond b o e hb;exact ⟨o',hB b o' e'⟩
 tups:=u.tups
 frzs:=u.frzs
 tbls:=u.tbls
noncomputable def sS(X:Cx)(E:XK):Prop:=∀ (pins:List (Addr × Obj)) (σ:St) (H:Hp) (s:Shared) (h':Heap) (e:Addr) (cls:Value) (args:List Value),
 Inv X pins σ H s->Heap.MadeExcOf s.heap h' e cls args->E cls none H->X.xe (.ref e) { s with heap:=h' }
section
variable {f:Addr} {E:XK}
theorem dR:sS (cX (CXr P w) P w K mg base N qual scope f cd A outer s H E) E:=by
 intro pins σ H1 s1 h' e cls args I hx hE;have hin:∀ env∈(cX (CXr P w) P w K mg base N qual scope f cd A outer s H E).stack,∀ b,env.frame=some b->b∈frs (cX (CXr P w) P w K mg base N qual scope f cd A outer s H E).stack:=
  λ env he b hb=>List.mem_filterMap.mpr ⟨env,he,hb⟩
 have nfr:∀ b o,H1 b=some o->b∉frs (cX (CXr P w) P w K mg base N qual scope f cd A outer s H E).stack:=λ b o e hb=>by
  rw [I.stkFree b hb] at e;cases e
 have get:∀ b o,s1.heap.get? b=some o->b∉frs (cX (CXr P w) P w K mg base N qual scope f cd A outer s H E).stack->(W.hideAll s1.heap (frs (cX (CXr P w) P w K mg base N qual scope f cd A outer s H E).stack)).get? b=some o:=
  λ b o e hb=>W.hideAll_get _ e hb
 refine wpAny_leaves_madeW (base:=W.hideAll s1.heap (frs (cX (CXr P w) P w K mg base N qual scope f cd A outer s H E).stack)) (h:=s1.heap) (env:=envOfC qual scope s.heap.objs.size f cd) (outer:=outer) I.ok.frames rfl (λ b o q=>W.of_hideAll _ q) (W.funFrames_hide I.stack hin) hx λ h2 t x1 x2 x3 x4=>?_
 -- the callee's own frame stands above its entry
 have notL:∀ b o,s.heap.get? b=some o->b∉frs outer->b∉frs (cX (CXr P w) P w K mg base N qual scope f cd A outer s H E).stack:=λ b o e hb hs=>by
  rcases al_mc.mp (I.stkSub b hs) with z | z
  ·have:=Heap.lt_size e;exact absurd (Nat.lt_of_lt_of_le this I.ok.above) (by rw [z];exact Nat.lt_irrefl _)
  ·exact hb z
 have B:=I.base;have cond:∀ b o,s.heap.get? b=some o->b∉frs outer->∃ o',(W.hideAll s1.heap (frs (cX (CXr P w) P w K mg base N qual scope f cd A outer s H E).stack)).get? b=some o'/\(H b=none->o'=o):=λ b o e hb=>by
  obtain ⟨o',e1⟩:=B.there b o e (by intro z;exact absurd (show b∈([]:List Addr) from z) (by simp));refine ⟨o',get b o' e1 (notL b o e hb),λ n=>?_⟩;have:=B.keep b o e n hb (by intro z;exact absurd (show b∈([]:List Addr) from z) (by simp));rw [e1] at this;exact Option.some.inj this
 refine ⟨e,cls,.ref t,H1,_,rfl,I.os,I.bare,x1,?_,?_,?_,cond,hE⟩
 ·cases q:H1 e with
  | none=>rfl
  | some o=>
   obtain ⟨ob,e1⟩:=(I.hok e o q).there;have:=hx.new;rw [e1] at this;cases this
 ·refine Un.fly (h1:=s1.heap) B x1.1 ((Heap.UpToSlots.of_keeps hx.keeps).trans x4) cond λ b hb=>?_;obtain ⟨_,o,ho,nf⟩:=I.funs.mem hb;exact ⟨o,ho,nf⟩
 ·exact λ b o e1=>(I.hok b o e1).stay (λ c u hc q=>get c u q (by
   rcases hc with z | z
   ·rw [z];exact nfr b o e1
   ·exact nfr c _ z)) (λ _ q=>q) λ _ _ q=>q
theorem dj:c9 (CXr P w) (cX (CXr P w) P w K mg base N qual scope f cd A outer s H E) E:=by
 rintro pins σ H1 s1 e s' I ⟨a,cls,a0,H',B,rfl,os,bare,hfl,ha,u,hok,cond,hE⟩;refine wpAny_leaves_onW (env:=envOfC qual scope s.heap.objs.size f cd) (outer:=outer) I.ok.frames rfl hfl λ h2 x1 x2=>?_;have u2:=u.fly x1.1 x2 cond λ b hb=>by
  obtain ⟨_,o,ho,nf⟩:=hfl.2.2.1.mem hb;exact ⟨o,ho,nf⟩
 have I2:=I.call' (s':={ s' with heap:=h2 }) os u2 (hok.kept x1.1) bare λ b hb=>absurd hb (by simp);refine ⟨a,cls,a0,H',B,rfl,I2.os,bare,x1,ha,I2.base,hok,λ b o e hb=>?_,hE⟩;have notL:b∉frs (cX (CXr P w) P w K mg base N qual scope f cd A outer s H E).stack:=λ hs=>by
  rcases al_mc.mp (I.stkSub b hs) with z | z
  ·have:=Heap.lt_size e;exact absurd (Nat.lt_of_lt_of_le this I.ok.above) (by rw [z];exact Nat.lt_irrefl _)
  ·exact hb z
 obtain ⟨o1,e1⟩:=I.base.there b o e (by intro z;exact absurd (show b∈([]:List Addr) from z) (by simp));obtain ⟨o',e',q⟩:=cond b o1 e1 notL;refine ⟨o',e',λ n=>?_⟩;have k:=I.base.keep b o e n hb (by intro z;exact absurd (show b∈([]:List Addr) from z) (by simp));rw [e1] at k;rw [q (I.base.free b o e n (by intro z;exact absurd (show b∈([]:List Addr) from z) (by simp)))];exact Option.some.inj k
end
structure ExcC (K:W.Frag) (C:Addr):Prop where
 ex:W.excIn K C [.type "ValueError", .type "Exception", .type "BaseException", .type "object"] "ValueError.__new__" = true
theorem zdP{o:Option Obj}{f:Option Addr->ClassData->Array (Option Value)->Bool}(q:W.excIn.match_6 (λ _=>Bool) o f (λ _=>false)=true):∃ dd cd sl,o=some ⟨.type "type", dd,.cls cd,sl⟩/\f dd cd sl=true:=by
 rcases o with _ | ⟨cls,dd,data,sl⟩
 ·exact Bool.noConfusion q
 have e1:∃ tn,cls = .type tn:=by cases cls <;> first | exact ⟨_,rfl⟩ | exact Bool.noConfusion q
 obtain ⟨tn,rfl⟩:=e1;have e2:tn = "type" := by
  by_cases z:tn = "type"
  ·exact z
  ·unfold W.excIn.match_6 W.nsOkIn._sparseCasesOn_4 W.excIn._sparseCasesOn_6 at q;dsimp only at q;rw [dif_neg z] at q;exact Bool.noConfusion q
 subst e2;have e3:∃ cd,data = .cls cd:=by cases data <;> first | exact ⟨_,rfl⟩ | exact Bool.noConfusion q
 obtain ⟨cd,rfl⟩:=e3;exact ⟨dd,cd,sl,rfl,q⟩
noncomputable def M1r(mro:List Value)(l:List (Option Value))(g:Addr->List Value->Option Value->Option Value->Option Value->Option Value->String->Option Value->Bool):Prop:=∃ C' bm k0 k1 k2 k3 n k5,mro = .ref C' :: bm/\l=[k0,k1,k2,k3,some (.builtin n),k5]/\g C' bm k0 k1 k2 k3 n k5=true
theorem zdO{mro:List Value}{l:List (Option Value)}{g:Addr->List Value->Option Value->Option Value->Option Value->Option Value->String->Option Value->Bool}(q:W.excIn.match_1 (λ _ _=>Bool) mro l g (λ _ _=>false)=true):M1r mro l g:=by
 have e4:∃ C' bm,mro = .ref C' :: bm:=by
  rcases mro with _ | ⟨m,bm⟩
  ·exact Bool.noConfusion q
  ·cases m <;> first | exact ⟨_,_,rfl⟩ | exact Bool.noConfusion q
 obtain ⟨C',bm,rfl⟩:=e4;rcases l with _ | ⟨k0,_ | ⟨k1,_ | ⟨k2,_ | ⟨k3,_ | ⟨v,r⟩⟩⟩⟩⟩
 iterate 5 exact Bool.noConfusion q
 have e6:∃ n,v=some (.builtin n):=by
  rcases v with _ | v
  ·exact Bool.noConfusion q
  ·cases v <;> first | exact ⟨_,rfl⟩ | exact Bool.noConfusion q
 obtain ⟨n,rfl⟩:=e6;rcases r with _ | ⟨k5,_ | ⟨_,_⟩⟩
 ·exact Bool.noConfusion q
 ·exact ⟨C',bm,k0,k1,k2,k3,n,k5,rfl,rfl,q⟩
 ·exact Bool.noConfusion q
noncomputable def ExcOb(h:Heap)(C:Addr):Prop:=∃ bm N nm q bs hdct sn sub ab col dd k0 k1 k2 k3 k5 mN,
  h.get? C=some (excClassObj nm q C N bs bm hdct sn sub ab col dd k0 k1 k2 k3 k5 "ValueError.__new__")/\h.Ns N mN/\mN "__init__" = none/\OwnTail h [.type "ValueError", .type "Exception", .type "BaseException", .type "object"] bm
theorem ExcOb.mk(X:K.In h){bm N nm q bs hdct sn sub ab col dd k0 k1 k2 k3 k5}(ho:K.lookup C=some (excClassObj nm q C N bs bm hdct sn sub ab col dd k0 k1 k2 k3 k5 "ValueError.__new__"))(ht:W.tailIn K [.type "ValueError", .type "Exception", .type "BaseException", .type "object"] bm=true)(hok:W.nsOkIn K N=true)(hni:W.nsIn K N "__init__" = some none):ExcOb h C:=
 ⟨bm,N,nm,q,bs,hdct,sn,sub,ab,col,dd,k0,k1,k2,k3,k5,_,X _ _ ho,.of_isNs (W.isNs_of_in X hok),W.nsMap_none_of_in X hok hni,W.tail_of_in X ht⟩
theorem ExcC.obj(c:ExcC K C)(X:K.In h):ExcOb h C:=by
 obtain ⟨dd,⟨nm,bs,mro,ns,qn,hd,sn,sub,ab,col,del⟩,⟨l⟩,ho,q⟩:=zdP c.ex;obtain ⟨C',bm,k0,k1,k2,k3,n,k5,rfl,rfl,q⟩:=zdO q;simp only [Bool.and_eq_true,beq_iff_eq,Bool.not_eq_true'] at q;obtain ⟨⟨⟨⟨⟨rfl,rfl⟩,rfl⟩,ht⟩,hok⟩,hni⟩:=q;exact .mk X ho ht hok hni
noncomputable def zjC(E:XK)(C:Addr)(t:TA):TS:=λ _ σ H=>t σ H λ vs H1=>vs.length<=sizeLine/\E (.ref C) none H1
theorem dP{E:XK}{e0:Expr}{t:TA}(T:sS X E)(c:ExcC X.K C)(hc:X.calm=true)(hg:Gl X x)(hm:X.mg x=some (.ref C))(ha:PA X (e0::es) t)(hdb:(x == ("__debug__" : Str))=false:=by decide)(he:starEach (e0::es) X.env=(false,eval e0 X.env)::starEach es X.env:=by rfl)(hpl:(backTo cpos (starEach es X.env)).any (·.1)=false:=by rfl):
  PS X (.Raise (some (.Call (.Name x np) (e0::es) [] cpos)) none pos) (zjC E C t):=by
 intro pins s σ H D I h;obtain ⟨bm,Nn,nm,q,bs,hdct,sn,sub,ab,col,dd,k0,k1,k2,k3,k5,mN,hC,hN,hni,TL⟩:=c.obj I.ok.mod.kin;refine wpAny_Raise_call_subT (C:=C) (nm:=nm) (q:=q) (N:=Nn) (bs:=bs) (bm:=bm) (hdct:=hdct) (sn:=sn) (sub:=sub) (ab:=ab) (col:=col) (dd:=dd) (k0:=k0) (k1:=k1) (k2:=k2) (k3:=k3) (k5:=k5) (mN:=mN)
  F.excBase_ValueError (TL.hasType rfl) (I.ok.hd hc) (by rw [he];show (false || (backTo cpos (starEach es X.env)).any (·.1))=false;rw [hpl];rfl) hni (gZ I hg hm ⟨rfl,?_⟩ hdb)
 have key:=ha cpos pins s σ H _ I h;rw [he] at key ⊢;refine Calls.evalArgs_plain (wpAny_mono key (λ us s2 ⟨vs,H2,I2,r2,hl,q2⟩=>⟨rfl,by rw [← r2.length];exact hl,I2.bk _ _ hC,hN.keeps I2.bk,TL.keeps I2.bk,λ h' e hx=>?_⟩) λ _ _ y=>y);exact T pins σ H2 s2 h' e _ _ I2 hx q2
noncomputable def eP(a:Addr)(cls:Value):HO:=.ext λ h=>∃ o vs,h.get? a=some o/\o.cls=cls/\o.data = .fields vs
theorem zbB{o:Obj}{vs:Array Value}(e:h.get? a=some o)(hc:o.cls=cls)(hd:o.data = .fields vs):ObjOk P w H h a (eP a cls):=
 ⟨⟨o,vs,e,hc,hd⟩,⟨o,e⟩,λ h1 h2 ⟨o',vs',e',c',d'⟩ k=>⟨o',vs',k o' e',c',d'⟩⟩
theorem Inv.track(I:Inv X pins σ H s)(hn:H a=none)(hs:X.s₀.heap.get? a=none)(hL:a≠X.env.locals)(hc:∀ x c,X.env.cells.lookup x=some c->c≠a)(hp:∀ p∈X.pn++pins,p.1≠a)(new:ObjOk X.prog X.w (upd H a o) s.heap a o):Inv X pins σ (upd H a o) s:=by
 have ne0:∀ b ob,X.s₀.heap.get? b=some ob->b≠a:=λ b ob e z=>by rw [z,hs] at e;cases e
 have neH:∀ b u,H b=some u->b≠a:=λ b u e z=>by rw [z,hn] at e;cases e
 refine ⟨I.ok,I.os,I.bare,⟨I.base.keep,I.base.slot,λ b ob e n hx=>by rw [ag (ne0 b ob e)];exact I.base.free b ob e n hx,I.base.there,λ b xs e=>?_,λ b ob u e=>?_,λ b ps e=>?_⟩,
  I.loc,I.cell,by rw [ag (Ne.symm hL)];exact I.free,λ x c e=>by rw [ag (hc x c e)];exact I.freeC x c e,λ p h=>?_,λ b u e=>?_,I.len⟩
 ·have q:=I.base.tups b xs e;rw [ag (neH b _ q)];exact q
 ·have q:=I.base.frzs b ob u e;rw [ag (neH b _ q)];exact q
 ·obtain ⟨m,q⟩:=I.base.tbls b ps e;exact ⟨m,by rw [ag (neH b _ q)];exact q⟩
 ·obtain ⟨q1,q2,q3⟩:=I.pin p h;exact ⟨q1,by rw [ag (hp p h)];exact q2,q3⟩
 ·by_cases hb:b=a
  ·subst hb;rw [ah] at e;cases e;exact new
  ·rw [ag hb] at e;exact (I.hok b u e).stay (λ c v _ q=>q) (λ c q=>by rw [ag (neH c _ q)];exact q) λ c xs q=>by rw [ag (neH c _ q)];exact q
theorem Inv.locals{h':Heap}{m':Str->Option Value}{σ':St}{t':Nat}(I:Inv X pins σ H s)(hs:Heap.SameBut X.env.locals s.heap h')(hn:h'.Ns X.env.locals m')(hl:σ'.length=σ.length)(hm:∀ (j:Nat) (y:Str) (v:V),X.N[j]?=some y->σ'[j]?=some (some v)->Vis X.env.scope y->∃ u,RelV v u/\sO X.env h' m' y u):Inv X pins σ' H { s with heap:=h',toks:=t' }:=by
 have neL:∀ b o,X.s₀.heap.get? b=some o->b≠X.env.locals:=λ b o e=>Nat.ne_of_lt (Nat.lt_of_lt_of_le (Heap.lt_size e) I.ok.above);refine ⟨I.ok,I.os,I.bare,⟨λ b o e n hb hx=>(hs.2 b (neL b o e)).trans (I.base.keep b o e n hb hx),λ b o e n hb hx=>?_,I.base.free,λ b o e hx=>?_,I.base.tups,I.base.frzs,I.base.tbls⟩,
  ⟨m',hn,hm⟩,λ y c e=>?_,I.free,I.freeC,λ p hp=>?_,λ b u e=>?_,hl.trans I.len⟩
 ·obtain ⟨sl,q⟩:=I.base.slot b o e n hb hx;exact ⟨sl,(hs.2 b (neL b o e)).trans q⟩
 ·obtain ⟨o',q⟩:=I.base.there b o e hx;exact ⟨o',(hs.2 b (neL b o e)).trans q⟩
 ·obtain ⟨v,z⟩:=I.cell y c e;exact ⟨v,z.sameBut hs (I.cne y c e)⟩
 ·obtain ⟨q1,q2,q3,q4⟩:=I.pin p hp;exact ⟨(hs.2 p.1 q3).trans q1,q2,q3,q4⟩
 ·refine (I.hok b u e).stay (λ c v hc q=>(hs.2 c ?_).trans q) (λ _ q=>q) λ _ _ q=>q;rintro rfl;rcases hc with z | z
  ·rw [← z,I.free] at e;cases e
  ·rw [I.free] at z;cases z
theorem vP{n:Str}{Q:Unit->Shared->Prop}(I:Inv X pins σ H s)(hN:X.N.Nodup)(hi:X.N[i]?=some n)(hl:X.env.scope.names.lookup n=some .local)(h:∀ s',Inv X pins (σ.set i none) H s'->Q () s'):wpAny M A (do bindName X.env n .none;unbindBehindTheSuite X.env n pos) Q E s:=by
 refine af (wpAny_bindName (jP (v:=.non) I hN hi (.inl hl) rfl (λ s1 I1=>?_) (.inr hl)));have hiσ:i < σ.length:=by rw [I.len];exact (al_gs.mp hi).1
 unfold unbindBehindTheSuite;refine wpAny_onRaise ?_;obtain ⟨m,hn,hm⟩:=I1.loc;have hv:∃ u,m n=some u:=by
  obtain ⟨u,_,q⟩:=hm i n .non hi (by rw [List.getElem?_set_self hiσ]) (.inl hl);rcases q with ⟨_,q⟩ | ⟨k,_⟩
  ·exact ⟨u,q⟩
  ·have k:X.env.scope.names.lookup n=some .cell\/X.env.scope.names.lookup n=some .free:=k;rw [hl] at k;rcases k with k | k <;> cases k
 obtain ⟨u,hv⟩:=hv;refine wpAny_unbindName_local hl hn hv (by rw [I.ok.kind];rfl) λ h' u' hn' hs'=>h _ (I1.locals (t':=s1.toks) hs' hn' (by simp) λ j y v e1 e2 e3=>?_);have hj:j≠i:=λ z=>by
  subst z;rw [List.getElem?_set_self hiσ] at e2;cases e2
 rw [List.getElem?_set_ne (Ne.symm hj)] at e2;obtain ⟨u2,r2,q⟩:=hm j y v e1 (by rw [List.getElem?_set_ne (Ne.symm hj)];exact e2) e3;refine ⟨u2,r2,?_⟩;rcases q with ⟨k,e⟩ | ⟨k,c,e,z⟩
 ·refine .inl ⟨k,?_⟩;have:y≠n:=λ e=>hj (eZ hN e1 (e ▸ hi));show (if y=n then u' else m y)=some u2;rw [if_neg this];exact e
 ·exact .inr ⟨k,c,e,z.sameBut hs' (I1.cne y c e)⟩
noncomputable def gv(X:Cx)(pn:List (Addr × Obj))(xe:Value->Shared->Prop):Cx:={ X with pn:=pn,xe:=xe }
noncomputable def gu(X:Cx)(a:Addr):Cx:={ X with A:=X.A.mark (some (.ref a)),calm:=false,xe:=λ _ _=>False }
section
variable {xe:Value->Shared->Prop}
theorem Cx.Ok.toTry(ok:X.Ok):(gv X pn xe).Ok:=
 ⟨ok.mod,ok.kind,ok.glob,ok.blt,ok.above,ok.inj,ok.has,ok.cab,ok.hd,ok.frames,ok.stk,ok.exf,ok.bs,ok.bsz,ok.noex,ok.exfs,ok.funs,ok.frf⟩
theorem Cx.Ok.ofTry(ok:(gv X pn xe).Ok):X.Ok:=
 ⟨ok.mod,ok.kind,ok.glob,ok.blt,ok.above,ok.inj,ok.has,ok.cab,ok.hd,ok.frames,ok.stk,ok.exf,ok.bs,ok.bsz,ok.noex,ok.exfs,ok.funs,ok.frf⟩
theorem Inv.toTry(I:Inv X pins σ H s):Inv (gv X (X.pn++pins) xe) [] σ H s:=
 ⟨I.ok.toTry,I.os,I.bare,I.base,I.loc,I.cell,I.free,I.freeC,λ p hp=>I.pin p (by simpa [gv] using hp),I.hok,I.len⟩
theorem Inv.ofTry(I:Inv (gv X (X.pn++pins) xe) pins' σ H s):Inv X pins σ H s:=
 ⟨I.ok.ofTry,I.os,I.bare,I.base,I.loc,I.cell,I.free,I.freeC,λ p hp=>I.pin p (List.mem_append_left _ hp),I.hok,I.len⟩
theorem Cx.Ok.toSuite(ok:X.Ok):(gu X a).Ok:=
 ⟨ok.mod,ok.kind,ok.glob,ok.blt,ok.above,ok.inj,ok.has,ok.cab,λ z=>Bool.noConfusion z,ok.frames,ok.stk,ok.exf,ok.bs,ok.bsz,ok.noex,ok.exfs,ok.funs,ok.frf⟩
theorem Cx.Ok.ofSuite(hd:X.calm=true->X.A.handled=none)(ok:(gu X a).Ok):X.Ok:=
 ⟨ok.mod,ok.kind,ok.glob,ok.blt,ok.above,ok.inj,ok.has,ok.cab,hd,ok.frames,ok.stk,ok.exf,ok.bs,ok.bsz,ok.noex,ok.exfs,ok.funs,ok.frf⟩
theorem Inv.toSuite(I:Inv X pins σ H s):Inv (gu X a) pins σ H s:=
 ⟨I.ok.toSuite,I.os,I.bare,I.base,I.loc,I.cell,I.free,I.freeC,I.pin,I.hok,I.len⟩
theorem Inv.ofSuite(hd:X.calm=true->X.A.handled=none)(I:Inv (gu X a) pins σ H s):Inv X pins σ H s:=
 ⟨I.ok.ofSuite hd,I.os,I.bare,I.base,I.loc,I.cell,I.free,I.freeC,I.pin,I.hok,I.len⟩
noncomputable def zjF(K:W.Frag)(R:Addr)(nN i:Nat)(tb:XK->TS)(ts:TS):TS:=λ D σ H=>
 tb (λ cls _ H'=>W.exmOne K cls (.ref R)=some true/\∀ a,H' a=none->
  ts { nx:=λ σ2 H2=>D.nx (σ2.set i none) H2,rt:=D.rt } ((List.replicate nN none).set i (some (.ref a))) (upd H' a (eP a cls))) D σ H
theorem zhB{R:Addr}{n:Str}{hpos:Pos}{b0:Stmt}{suite:List Stmt}{tb:XK->TS}{ts:TS}(hst:X.stack=X.env::X.outer)(hfr:X.env.frame=some X.env.locals)(hex:X.ex=[])(hN:X.N.Nodup)(hi:X.N[i]?=some n)(hl:X.env.scope.names.lookup n=some .local)(hg:Gl X x)(hm:X.mg x=some (.ref R))(hb:∀ pn xe E,c9 (CXr X.prog X.w) (gv X pn xe) E->PSs (gv X pn xe) body (tb E))(hs:∀ a,PSs (gu X a) (b0::suite) ts)(hdb:(x == ("__debug__" : Str))=false:=by decide):
  PS X (.Try body [.ExceptHandler (some (.Name x np)) (some n) (b0::suite) hpos] [] [] pos) (zjF X.K R X.N.length i tb ts):=by
 intro pins s σ H D I h;refine wpAny_Try_except ?_;have frames:X.A.frames=some (X.env::X.outer):=by rw [← hst];exact I.ok.frames
 have pass:c9 (CXr X.prog X.w) (gv X (X.pn++pins) (λ e s₁=>wpAny (model X.prog X.w) X.A (noteFrame e X.env) (λ _ s₂=>wpAny (model X.prog X.w) X.A (setFlight e none) (λ _ s₃=>
   wpAny (model X.prog X.w) X.A (handleBy e X.env [.ExceptHandler (some (.Name x np)) (some n) (b0::suite) hpos]) (SP X pins D) X.xe s₃) X.xe s₂) X.xe s₁))
   (λ cls _ H'=>W.exmOne X.K cls (.ref R)=some true/\∀ a,H' a=none->
    ts { nx:=λ σ2 H2=>D.nx (σ2.set i none) H2,rt:=D.rt } ((List.replicate X.N.length none).set i (some (.ref a))) (upd H' a (eP a cls))):=by
  rintro pins' σ' H1 s1 e s' I' ⟨a,cls,a0,H',B,rfl,os,bare,hfl,ha,u,hok,cond,hE1,hE2⟩;have IX:Inv X pins σ' H1 s1:=I'.ofTry;have hfl':Heap.FlyingW B (X.env::X.outer) a cls a0 s'.heap:=hst ▸ hfl;have fr':∀ b∈frs X.stack,∃ o,s'.heap.get? b=some o/\∀ vs,o.data≠.fields vs:=λ b hb'=>by
   obtain ⟨_,o,ho,nf⟩:=hfl.2.2.1.mem hb';exact ⟨o,ho,nf⟩
  have fresh:s1.heap.get? a=none:=by
   cases q:s1.heap.get? a with
   | none=>rfl
   | some o=>
    by_cases hb':a∈frs X.stack
    ·obtain ⟨o',ho',nf⟩:=fr' a hb';obtain ⟨oe,vs,_,_,_,he,_,hd,_⟩:=hfl.2.2.2;rw [ho'] at he;cases he;exact absurd hd (nf vs)
    ·obtain ⟨o',e',_⟩:=cond a o q hb';have:=hfl.2.1;rw [e'] at this;cases this
  show wpAny (model X.prog X.w) X.A (noteFrame (.ref a) X.env) _ _ s';refine wpAny_looks_onW frames hfr hfl' λ h4 held4 sm4=>?_;refine wpAny_landsW held4 λ h5 fl5 sm5=>?_;have I5:Inv X pins σ' H' { s' with heap:=h5 }:=IX.call' (s':={ s' with heap:=h5 }) os (u.fly fl5.1 (sm4.trans sm5) cond fr') (hok.kept fl5.1) bare λ b z=>absurd z (by simp);obtain ⟨ob,hob,hobc⟩:=fl5.there;have I5s:Inv (gu X a) pins σ' H' { s' with heap:=h5 }:=I5.toSuite;refine wpAny_handleBy_cons (codeAny_handlers_test (gZ I5s hg hm ?_ hdb)) (by intro q;cases q);refine (W.exm_one I5.kIn (hobc ▸ (W.Looks.ld hob).andThen .now) hE1).here ?_;show codeAny _ _ _ _ _;refine codeAny_handlers_suite_as ?_;refine lands_againW fl5 λ h6 fl6 sm6=>?_;have I6:Inv X pins σ' H' { s' with heap:=h6 }:=IX.call' (s':={ s' with heap:=h6 }) os (u.fly fl6.1 ((sm4.trans sm5).trans sm6) cond fr') (hok.kept fl6.1) bare λ b z=>absurd z (by simp);have I6w:Inv X pins (List.replicate X.N.length none) H' { s' with heap:=h6 }:=I6.weak (by rw [List.length_replicate,I6.len]) λ j v e=>by
   rw [List.getElem?_replicate] at e
   split at e <;> cases e
  obtain ⟨oe,vs,_,_,_,he6,⟨hc6,_⟩,hd6,_⟩:=fl6.2.2.2;have I7:Inv X pins (List.replicate X.N.length none) (upd H' a (eP a cls)) { s' with heap:=h6 }:=by
   refine I6w.track ha ?_ ?_ (λ y c e z=>?_) (λ p hp z=>?_) (zbB he6 hc6 hd6)
   ·cases q:X.s₀.heap.get? a with
    | none=>rfl
    | some o=>
     obtain ⟨o',e'⟩:=IX.base.there a o q (by rw [hex];simp);rw [fresh] at e';cases e'
   ·rintro rfl;obtain ⟨m,⟨o,_,_,ho,_⟩,_⟩:=IX.loc;rw [fresh] at ho;cases ho
   ·obtain ⟨v,o,ho,_⟩:=IX.cell y c e;rw [z,fresh] at ho;cases ho
   ·have:=(IX.pin p hp).1;rw [z,fresh] at this;cases this
  have I7s:Inv (gu X a) pins (List.replicate X.N.length none) (upd H' a (eP a cls)) { s' with heap:=h6 }:=I7.toSuite;refine jP (X:=gu X a) (v:=.ref a) I7s hN hi (.inl hl) rfl (λ s8 I8=>?_) (.inr hl);refine wpAny_mono (hs a pins s8 _ _ _ I8 (hE2 a ha)) (λ f s9 q9=>?_) (λ _ _ z=>z.elim);cases f with
  | next=>
   obtain ⟨σ9,H9,I9,q⟩:=q9;exact vP (I9.ofSuite I.ok.hd) hN hi hl λ s10 I10=>⟨_,_,I10,q⟩
  | ret v=>
   obtain ⟨v9,σ9,H9,I9,rv,q⟩:=q9;exact vP (I9.ofSuite I.ok.hd) hN hi hl λ s10 I10=>⟨_,_,_,I10,rv,q⟩
  | brk=>
   obtain ⟨_,_,_,q⟩:=q9;exact False.elim q
  | cont=>
   obtain ⟨_,_,_,q⟩:=q9;exact False.elim q
 refine wpAny_mono (hb _ _ _ pass [] s σ H D I.toTry h) (λ f s1 q=>?_) λ e s1 q=>q;cases f with
 | next=>
  obtain ⟨σ1,H1,I1,q⟩:=q;exact wpAny_execs_nil ⟨σ1,H1,I1.ofTry,q⟩
 | ret v=>
  obtain ⟨v1,σ1,H1,I1,rv,q⟩:=q;exact ⟨v1,σ1,H1,I1.ofTry,rv,q⟩
 | brk=>
  obtain ⟨σ1,H1,I1,q⟩:=q;exact ⟨σ1,H1,I1.ofTry,q⟩
 | cont=>
  obtain ⟨σ1,H1,I1,q⟩:=q;exact ⟨σ1,H1,I1.ofTry,q⟩
end
structure fi (K:W.Frag) (C:Addr):Prop where
 cl:(W.clsIn K C).isSome=true
 ga:W.findIn K (.ref C) "__getattribute__" = some (some (.builtin "BaseException.__getattribute__"))
 gn:W.findIn K (.ref C) "__getattr__" = some none
 ca:W.findIn K (.ref C) "__class__" = some (some (.builtin "object.__class__"))
 cg:W.specialIn K (.builtin "object.__class__") "__get__" = some (some (.builtin "getset_descriptor.__get__"))
 ck:W.takesIn K (.builtin "object.__class__")=some true
 cm:W.mroIn K C (.type "object")=some true
 sb:W.subIn K (.ref C) (.type "BaseException")=some true
noncomputable def ExcAt(x C:Addr)(h:Heap):Prop:=∃ o vs,h.get? x=some o/\o.cls = .ref C/\o.data = .fields vs
theorem ExcAt.ty{x:Addr}(p:ExcAt x C h):W.Looks M h (typeOf (.ref x)) (.ref C):=by
 obtain ⟨o,vs,e,hc,_⟩:=p;exact hc ▸ (W.Looks.ld e).andThen .now
section
open Builtin Builtin.ObjectAttr Builtin.Getset_descriptor
variable {x:Addr}
theorem zbC{Q:Option Value->Shared->Prop}(k:fi K C)(X:K.In s.heap)(I:ExcAt x C s.heap)(h:Q (some (.ref C)) { s with toks:=s.toks+1 }):
  wpAny (model prog w) A (getAttr? (.ref x) "__class__") Q E s:=by
 obtain ⟨hh,g,d,t,os⟩:=s;have L0:=I.ty (M:=model prog w);have L1:=W.looks_findIn (M:=model prog w) X k.ga;have L2:=W.looks_findIn (M:=model prog w) X k.gn;have L3:=W.looks_findIn (M:=model prog w) X k.ca;have L4:=W.looks_specialIn (M:=model prog w) X k.cg;have L5:=W.looks_takesIn (M:=model prog w) X k.ck;have L6:=W.looks_subIn (M:=model prog w) X k.sb;have L7:=W.looks_mroIn (M:=model prog w) X k.cm;unfold getAttr? getAttrBy? getAttrBy;refine af (wpAny_mkText (af (wpAny_attempt (wpAny_holding (af (L0.at (af (L1.at ?_))))))));dsimp only;have hx2:(Value.builtin "BaseException.__getattribute__" == Value.builtin "object.__getattribute__")=false:=by decide +kernel
 rw [if_neg (by rw [hx2,Bool.and_false];exact bz)];unfold getAttrByItsOwn hookBefore;refine af ?_;rw [if_pos (show onTheHeap (Value.ref C)=true from rfl)];refine L2.at ?_;refine af (wpAny_attempt (wpAny_holding ?_));unfold callGetattribute boundAndCalled;rw [if_neg (show ¬ ((false && onTheHeap (Value.builtin "BaseException.__getattribute__"))=true) from bz)];refine af (wpAny_of_eq (F.attrBase_ValueError.ga.bind (.ref x)) ?_);dsimp only;refine wpAny_call (codeAny_call_builtin F.attrBase_ValueError.ga.plain F.entry_bexc_ga ?_);have hk:builtinKind "BaseException.__getattribute__" = some .slot:=by decide +kernel
 have hsplit:splitId "BaseException.__getattribute__" = some ("BaseException", "__getattribute__"):=by decide +kernel
 have ha:=F.args_bexc_ga (.ref x) (.str "__class__" t);simp only [checkBuiltinCall,hk,hsplit];refine af ?_;unfold isInstance;refine af (L0.at (L6.at ?_));rw [if_neg (show ¬ ((!true)=true) from bz)];refine wpAny_of_eq ha ?_;have LF:W.Looks (model prog w) hh (Builtin.ObjectAttr.find (.ref x) (.ref C) "__class__") (.bind (.builtin "getset_descriptor.__get__") (.builtin "object.__class__")):=
  L3.andThen (L4.andThen ((show W.Looks (model prog w) hh (Builtin.ObjectAttr.dataDescriptor? (some (.builtin "object.__class__")) (some (.builtin "getset_descriptor.__get__"))) (some (.builtin "getset_descriptor.__get__", .builtin "object.__class__")) from L5.andThen .now).andThen (W.Looks.tag .now)))
 unfold Builtin.«object.__getattribute__»;refine af (wpAny_of_eq (a:=(Value.ref x,[Value.str "__class__" t])) rfl ?_);dsimp only;refine af (wpAny_of_eq (a:=("__class__" : Str)) rfl ?_);refine af (L0.at (af (LF.at ?_)));dsimp only;refine af (wpAny_holding (wpAny_call ?_));refine codeAny_call_builtin W.KF.slot_gs.plain W.KF.entry_gs
  (W.KF.slot_gs.check _ _ _ _ _ _ _ _ W.KF.type_class (W.KF.args_gs _ _ _) ?_)
 unfold Builtin.«getset_descriptor.__get__» descrGet;rw [W.dga_obj];refine af (aG ?_);unfold descrGetter descrCheckInstance descrNameAndClass isInstance;simp only [W.KF.owner_class]
 repeat lk
 refine ⟨Code.quiet_builtin _ (by decide +kernel),?_⟩;refine codeAny_builtin W.KF.entry_class ?_;unfold Builtin.«object.__class__» shownTypeOf
 repeat lk
 exact h
theorem zdC(k:fi K C):W.KitX K (.ref x) (.ref C) (ExcAt x C) where
 ty:=λ _ _ _ p=>p.ty
 it:=λ M h X _=>by
  obtain ⟨cd,hc⟩:=Option.isSome_iff_exists.mp k.cl;unfold W.clsIn at hc
  split at hc
  ·rename_i ho
   intro A' Q' E' s' kp q;unfold isType loadHead;exact af (wpAny_loadPart (kp _ _ (X _ _ ho)) (aG q))
  ·cases hc
 ne:=λ h tp dd its n sl X htp=>by
  obtain ⟨cd,hc⟩:=Option.isSome_iff_exists.mp k.cl;refine Bool.eq_false_iff.mpr λ q=>?_;have e:C=tp:=Value.ref.inj (beq_iff_eq.mp q);rw [← e] at htp;unfold W.clsIn at hc
  split at hc
  ·rename_i ho
   have z:=(X _ _ ho).symm.trans htp;cases z
  ·cases hc
 ca:=λ X I h=>zbC k X I h
end
noncomputable def gM(K:W.Frag)(H:Hp)(x c:V)(b:Bool):Prop:=
 ∃ cv,sU cv=some c/\(∀ u,RelV c u->u=cv)/\((∃ t,dS K H x t/\W.kitOne K t cv=some b)\/∃ a C,x = .ref a/\H a=some (eP a (.ref C))/\fi K C/\W.kitOne K (.ref C) cv=some b)
theorem zaT:CallR X (.builtin "isinstance") (λ xs H Q=>∃ x c b,xs=[x,c]/\gM X.K H x c b/\Q (.bl b) H):=by
 intro pins s σ H xs us Q I rv h;obtain ⟨x,c,b,rfl,⟨cv,_,hcv,h1⟩,q⟩:=h;obtain ⟨u,w',rfl,rx,rc⟩:=rX rv;cases hcv _ rc;rcases h1 with ⟨t,ty,e⟩ | ⟨a,C,rfl,ha,k,e⟩
 ·exact zdd I rx ty e λ tk=>⟨.bl b,H,I.tok tk,rfl,q⟩
 ·cases (show u=Value.ref a from rx);obtain ⟨⟨o,vs,h2,h3,h4⟩,_⟩:=(show ObjOk X.prog X.w H s.heap a (eP a (.ref C)) from I.hok a _ ha)
  exact W.kia_one (zdC k) I.kIn ⟨o,vs,h2,h3,h4⟩ e (λ z=>nomatch z) λ tk=>⟨.bl b,H,I.tok tk,rfl,q⟩
theorem sW:∀ bs:List Bool,(List.range bs.length).all (λ i=>bs.getD i false)=bs.all id
 | []=>rfl
 | b::bs=>by
  rw [List.length_cons,List.range_succ_eq_map,List.all_cons,List.all_map,List.all_cons,← sW bs];rfl
theorem tW(hc:X.calm=true):CallR X (.builtin "all") (λ xs H Q=>∃ (p:Addr) (bs:List Bool),xs=[.ref p]/\SqL X.K H p (bs.map V.bl)/\Q (.bl (bs.all id)) H):=by
 intro pins s σ H xs us Q I rv h;obtain ⟨p,bs,rfl,hq,q⟩:=h;obtain ⟨u,rfl,ru⟩:=d7 rv;cases ru;obtain ⟨its,r,pl,hz⟩:=I.list hq;have lt:p < s.heap.objs.size:=by
  obtain ⟨o,_,e,_⟩:=pl;exact Heap.lt_size e
 have hlen:bs.length=its.length:=by
  have:=r.length
  rwa [aj] at this
 refine call_all_walk (wpAny_pyIter_list pl.isList ?_);refine ⟨_,_,_,_,_,_,λ i=>bs.getD i false,rfl,Walks.list (A:=X.A.in1) (I.ok.hd hc) _ p (Nat.ne_of_lt lt) its.toArray,⟨⟨_,Heap.get?_push_size _ rfl,rfl,rfl⟩,pl.isList.push _⟩,?_,λ h' tk hk=>?_⟩
 ·intro i v s' Q' E' hv hQ;have hv:its[i]?=some v:=by simpa using hv
  have hi:i < bs.length:=by rw [hlen];exact (al_gs.mp hv).1
  obtain ⟨u,hu,ru⟩:=r.get (i:=i) (x:=V.bl bs[i]) (by simp [hi]);rw [hv] at hu;cases hu;cases (show v=Value.bool bs[i] from ru);have e:bs.getD i false=bs[i]:=by simp [List.getD,hi]
  have hQ:Q' (bs.getD i false) s':=hQ;rw [e] at hQ;exact aG hQ
 ·refine ⟨.bl (bs.all id),H,I.kept (t':=tk) λ b o e=>?_,?_,q⟩
  rotate_left
  ·show _=Value.bool _;rw [a9,← hlen,sW]
  ·exact hk b o (by simpa using Nat.ne_of_lt (Heap.lt_size e)) (aY _ e)
theorem za0(hc:X.calm=true):CallR X (.builtin "max") (λ xs H Q=>∃ (p:Addr) (ns:List Int) (M:Int),xs=[.ref p]/\SqL X.K H p (ns.map V.int)/\M∈ns/\(∀ a∈ns,a<=M)/\Q (.int M) H):=by
 intro pins s σ H xs us Q I rv h;obtain ⟨p,ns,M,rfl,hq,hM,hle,q⟩:=h;obtain ⟨u,rfl,ru⟩:=d7 rv;cases ru;obtain ⟨its,r,pl,hz⟩:=I.list hq;have hi:=kA r;obtain ⟨ws,e⟩:=hi.allInts.items;have en:ns=ws.toList.map (·.1):=by
  have q1:=hi.numsOf;have q2:=nums_intItems ws;rw [← e] at q2;rw [← q1];exact q2
 have hne:0 < ws.size:=by
  have:ns.length=ws.size:=by rw [en,aj,Array.length_toList]
  rw [← this];exact List.length_pos_of_mem hM
 refine max_intList (I.ok.hd hc) (e ▸ pl.isList) hne λ v h' tk hv hk=>?_;obtain ⟨t,rfl⟩:=intItems_at hv;obtain ⟨h1,h2⟩:=argBest_gt (numAt ws) (ws.size - 1);have m1:numAt ws (argBest (λ i j=>decide (numAt ws i > numAt ws j)) (ws.size - 1))∈ns:=by
  rw [en,numAt_eq];exact getD_mem (by rw [aj,Array.length_toList];omega)
 have m2:∀ a∈ns,a<=numAt ws (argBest (λ i j=>decide (numAt ws i > numAt ws j)) (ws.size - 1)):=λ a ha=>by
  rw [en] at ha;obtain ⟨j,hj,rfl⟩:=mem_getD ha;rw [aj,Array.length_toList] at hj;rw [← numAt_eq];exact h2 j (by omega)
 have eM:numAt ws (argBest (λ i j=>decide (numAt ws i > numAt ws j)) (ws.size - 1))=M:=by
  have a1:=hle _ m1;have a2:=m2 _ hM;omega
 exact ⟨.int M,H,I.kept (t':=tk) hk,⟨t,by rw [eM]⟩,q⟩
theorem t5(hc:X.calm=true):CallR X (.builtin "min") (λ xs H Q=>∃ (p:Addr) (ns:List Int) (M:Int),xs=[.ref p]/\SqL X.K H p (ns.map V.int)/\M∈ns/\(∀ a∈ns,M<=a)/\Q (.int M) H):=by
 intro pins s σ H xs us Q I rv h;obtain ⟨p,ns,M,rfl,hq,hM,hle,q⟩:=h;obtain ⟨u,rfl,ru⟩:=d7 rv;cases ru;obtain ⟨its,r,pl,hz⟩:=I.list hq;have hi:=kA r;obtain ⟨ws,e⟩:=hi.allInts.items;have en:ns=ws.toList.map (·.1):=by
  have q1:=hi.numsOf;have q2:=nums_intItems ws;rw [← e] at q2;rw [← q1];exact q2
 have hne:0 < ws.size:=by
  have:ns.length=ws.size:=by rw [en,aj,Array.length_toList]
  rw [← this];exact List.length_pos_of_mem hM
 refine min_intList (I.ok.hd hc) (e ▸ pl.isList) hne λ v h' tk hv hk=>?_;obtain ⟨t,rfl⟩:=intItems_at hv;obtain ⟨h1,h2⟩:=argBest_lt (numAt ws) (ws.size - 1);have m1:numAt ws (argBest (λ i j=>decide (numAt ws i < numAt ws j)) (ws.size - 1))∈ns:=by
  rw [en,numAt_eq];exact getD_mem (by rw [aj,Array.length_toList];omega)
 have m2:∀ a∈ns,numAt ws (argBest (λ i j=>decide (numAt ws i < numAt ws j)) (ws.size - 1))<=a:=λ a ha=>by
  rw [en] at ha;obtain ⟨j,hj,rfl⟩:=mem_getD ha;rw [aj,Array.length_toList] at hj;rw [← numAt_eq];exact h2 j (by omega)
 have eM:numAt ws (argBest (λ i j=>decide (numAt ws i < numAt ws j)) (ws.size - 1))=M:=by
  have a1:=hle _ m1;have a2:=m2 _ hM;omega
 exact ⟨.int M,H,I.kept (t':=tk) hk,⟨t,by rw [eM]⟩,q⟩
theorem gW:∀ {x:V},bN x=true->eqV x x=true
 | .non,_=>rfl
 | .bl b,_=>by simp [eqV]
 | .int i,_=>by simp [eqV]
 | .str z,_=>by simp [eqV]
noncomputable def fw:List V->List V->Bool
 | [],[]=>true
 | x::xs,y::ys=>eqV x y && fw xs ys
 | _,_=>false
theorem na:∀ {xs:List V},xs.all bN=true->fw xs xs=true
 | [],_=>rfl
 | x::xs,h=>by
  rw [List.all_cons,Bool.and_eq_true] at h;unfold fw;rw [gW h.1,na h.2];rfl
theorem uw:∀ {xs ys:List V},xs.length≠ys.length->fw xs ys=false
 | [],[],h=>absurd rfl h
 | [],_::_,_=>rfl
 | _::_,[],_=>rfl
 | x::xs,y::ys,h=>by
  unfold fw;rw [uw (by simpa using h),Bool.and_false]
theorem uz:∀ {xs ys:List V},xs.length=ys.length->(List.range xs.length).all (λ j=>eqV (xs.getD j .non) (ys.getD j .non))=fw xs ys
 | [],[],_=>rfl
 | x::xs,y::ys,h=>by
  have h':xs.length=ys.length:=by simpa using h
  rw [List.length_cons,List.range_succ_eq_map,List.all_cons,List.all_map];unfold fw;rw [← uz h'];rfl
 | [],_::_,h=>by simp at h
 | _::_,[],h=>by simp at h
theorem zeH:MtR X "list.count" (λ x vs H Q=>∃ (p:Addr) (xs:List V) (y:V),x = .ref p/\vs=[y]/\H p=some (.lst xs)/\xs.all bN=true/\bN y=true/\Q (.int (xs.countP λ z=>eqV z y)) H):=by
 intro pins s σ H x vs v us Q I rx rv h;obtain ⟨p,xs,y,rfl,rfl,hH,fx,fy,q⟩:=h;cases rx;obtain ⟨u,rfl,ru⟩:=rv.one;obtain ⟨z,its,n,r,hl,e⟩:=I.lstM hH;refine call_meets F.slot_list_count ⟨_,e,rfl⟩ F.entry_list_count (F.args_list_count_2 _ _) (SeqAt.list_countAt p its.toArray n none #[] u (eqU y)) ⟨e,λ w hw=>gy ru fy r fx w (by simpa using hw),?_⟩;refine ⟨.int (xs.countP λ z=>eqV z y),H,I.tok _,⟨s.toks,?_⟩,q⟩;have:∀ {xs:List V} {us:List Value},Vals xs us->xs.all bN=true->us.countP (eqU y)=xs.countP λ z=>eqV z y:=by
  intro xs us r;induction r with
  | nil=>intro _;rfl
  | @cons a b l1 l2 h t ih=>
   intro f;rw [List.all_cons,Bool.and_eq_true] at f;rw [List.countP_cons,List.countP_cons,ih f.2,jj h f.1]
 rw [show its.toArray.toList=its from rfl,this r fx]
theorem kI:MtR X "list.index" (λ x vs H Q=>∃ (p:Addr) (xs:List V) (y:V) (j:Nat),x = .ref p/\vs=[y]/\H p=some (.lst xs)/\xs.all bN=true/\bN y=true/\
  (∃ z,xs[j]?=some z/\eqV z y=true)/\(∀ m z,m < j->xs[m]?=some z->eqV z y=false)/\Q (.int j) H):=by
 intro pins s σ H x vs v us Q I rx rv h;obtain ⟨p,xs,y,j,rfl,rfl,hH,fx,fy,⟨z0,hz0,ez0⟩,hno,q⟩:=h;cases rx;obtain ⟨u,rfl,ru⟩:=rv.one;obtain ⟨z,its,n,r,hl,e⟩:=I.lstM hH;have hj:j < xs.length:=(al_gs.mp hz0).1;have val:∀ (m:Nat) (hm:m < its.length),∃ zz,xs[m]?=some zz/\eqU y its[m]=eqV zz y:=λ m hm=>by
  have hm':m < xs.length:=by omega
  obtain ⟨a,ha,ra⟩:=r.get (i:=m) (x:=xs[m]) (by simp [hm']);have:its[m]?=some its[m]:=by simp
  rw [this] at ha;cases ha;exact ⟨xs[m],by simp [hm'],jj ra (List.all_eq_true.mp fx _ (List.getElem_mem _))⟩
 refine call_meets F.slot_list_index ⟨_,e,rfl⟩ F.entry_list_index (F.args_list_index_2 _ _) (SeqAt.list_indexAt p its.toArray n none #[] u (eqU y) j (by rw [a9];omega) ?_ ?_ ?_) ⟨e,λ w hw=>gy ru fy r fx w (by simpa using hw),?_⟩
 ·have:=gx;have:(j:Int) < 2 ^ 62:=by
   have s1:sizeLine < 2 ^ 62:=by rw [sizeLine_eq];decide
   omega
  omega
 ·obtain ⟨zz,e1,e2⟩:=val j (by omega);rw [hz0] at e1;cases e1;simpa using e2.trans ez0
 ·intro m hm hlt;rw [a9] at hm;obtain ⟨zz,e1,e2⟩:=val m hm;simpa using e2.trans (hno m zz hlt e1)
 ·exact ⟨.int j,H,I.tok _,⟨_,rfl⟩,q⟩
theorem zjR(l:Addr)(items:Array Value)(n:Nat)(dd:Option Addr)(sl:Array (Option Value))(x:Value)(e:Value->Bool)(j:Nat)(hj:j < items.size)(hit:e items[j]=true)(hno:∀ m (hm:m < items.size),m < j->e items[m]=false):
  Meets (Builtin.«tuple.index» ⟨[.ref l,x],[]⟩)
   (λ A R s=>s.heap.get? l=some { cls:=.type "tuple", dict:=dd,data:=.seq items n,slots:=sl }/\(∀ y,y∈items->SeqAt.EqAt A.in1 s y x (e y))/\R (.ok (.ret (.int j s.toks))) { s with toks:=s.toks+1 }):=by
 intro prog w A R s h;obtain ⟨hp,g,d,tk,os⟩:=s;obtain ⟨hl,he,h⟩:=h;unfold Builtin.«tuple.index»;simp only [Std.Legacy.Range.forIn_eq_forIn_range']
 wp_walk using wpAny_loadPart' hl,wpAny_forIn_list _ (λ rest b s'=>b.1=none/\s'=⟨hp,g,d,tk,os⟩/\∃ i,i<=j/\rest=List.range' i (items.size - i)) _
 case turn=>
  rintro y rest b s' ⟨hb,rfl,i,hi,hr⟩;have hpos:i < items.size:=by omega
  rw [show items.size - i=(items.size - i - 1)+1 by omega,List.range'_succ] at hr;injection hr with h1 h2
  subst h1;have hg:items[y]?=some items[y]:=by simp [hpos]
  rw [hg];refine af (he items[y] (Array.getElem_mem hpos) prog w _ _ ?_);by_cases hyj:y=j
  ·subst hyj;rw [hit]
   wp_walk
   exact h
  ·rw [hno y hpos (by omega)]
   wp_walk
   refine ⟨rfl,rfl,y+1,by omega,?_⟩;rw [h2];congr 1
 case fin=>
  rintro b s' ⟨_,rfl,i,hi,hr⟩;rw [show items.size - i=(items.size - i - 1)+1 by omega,List.range'_succ] at hr;cases hr
 case h=>
  exact ⟨rfl,rfl,0,Nat.zero_le _,by simp [Std.Legacy.Range.size]⟩
theorem vN:MtR X "tuple.index" (λ x vs H Q=>∃ (p:Addr) (xs:List V) (y:V) (j:Nat),x = .ref p/\vs=[y]/\SqT X.K H p xs/\xs.all bN=true/\bN y=true/\
  (∃ z,xs[j]?=some z/\eqV z y=true)/\(∀ m z,m < j->xs[m]?=some z->eqV z y=false)/\Q (.int j) H):=by
 intro pins s σ H x vs v us Q I rx rv h;obtain ⟨p,xs,y,j,rfl,rfl,hH,fx,fy,⟨z0,hz0,ez0⟩,hno,q⟩:=h;cases rx;obtain ⟨u,rfl,ru⟩:=rv.one;obtain ⟨its,r,⟨o,eo,hc,n,hd⟩,hz⟩:=I.tuple hH;obtain ⟨oc,od,da,sl⟩:=o;dsimp only at hc hd;subst hc hd;have hl:=r.length;have hj:j < xs.length:=(al_gs.mp hz0).1;have val:∀ (m:Nat) (hm:m < its.length),∃ zz,xs[m]?=some zz/\eqU y its[m]=eqV zz y:=λ m hm=>by
  have hm':m < xs.length:=by omega
  obtain ⟨a,ha,ra⟩:=r.get (i:=m) (x:=xs[m]) (by simp [hm']);have:its[m]?=some its[m]:=by simp
  rw [this] at ha;cases ha;exact ⟨xs[m],by simp [hm'],jj ra (List.all_eq_true.mp fx _ (List.getElem_mem _))⟩
 refine call_meets F.slot_tuple_index ⟨_,eo,rfl⟩ F.entry_tuple_index (F.args_tuple_index_2 _ _) (zjR p its.toArray n od sl u (eqU y) j (by rw [a9];omega) ?_ ?_) ⟨eo,λ w hw=>gy ru fy r fx w (by simpa using hw),?_⟩
 ·obtain ⟨zz,e1,e2⟩:=val j (by omega);rw [hz0] at e1;cases e1;simpa using e2.trans ez0
 ·intro m hm hlt;rw [a9] at hm;obtain ⟨zz,e1,e2⟩:=val m hm;simpa using e2.trans (hno m zz hlt e1)
 ·exact ⟨.int j,H,I.tok _,⟨_,rfl⟩,q⟩
theorem zeG:MtR X "int.bit_length" (λ x vs H Q=>∃ i:Int,x = .int i/\vs=[]/\Q (.int (Builtin.Int.intBits i)) H):=by
 intro pins s σ H x vs v us Q I rx rv h;obtain ⟨i,rfl,rfl,q⟩:=h;obtain ⟨t,rfl⟩:=rx;cases rv;exact call_gives F.slot_int_bit_length rfl F.entry_int_bit_length (F.args_int_bit_length_1 _) (PySem.AutoIntG2.int_bit_length_int_0 i t) ⟨.int _,H,I.tok _,⟨_,rfl⟩,q⟩
theorem bo{i:Int}(hm:∃ t,X.mg x=some (.int i t))(hg:Gl X x:=by rfl)(hd:(x == ("__debug__" : Str))=false:=by decide):PE X (.Name x pos) (tC (.int i)):=by
 obtain ⟨t,e⟩:=hm;exact wz hg e ⟨t,rfl⟩ hd
theorem dN(hm:X.mg x=some (.ref a))(hg:Gl X x:=by rfl)(hd:(x == ("__debug__" : Str))=false:=by decide):PE X (.Name x pos) (tC (.ref a)):=
 wz hg hm rfl hd
theorem hW{n:String}(hm:X.mg x=none)(hv:bootBuiltins x=some (.type n))(hg:Gl X x:=by rfl)(hn:x ≠ "__name__" := by decide)(hd:(x == ("__debug__" : Str))=false:=by decide):PE X (.Name x pos) (tC (.ty n)):=
 zhi hg hm hv rfl hn hd
theorem gY{x:V}{T:String}{t:Value}{b:Bool}(ty:dS K H x t)(e:W.kitOne K t (.type T)=some b):gM K H x (.ty T) b:=
 ⟨.type T,rfl,λ _ r=>r,.inl ⟨t,ty,e⟩⟩
theorem zdb{D:Addr}{b:Bool}(h:H a=some (eP a (.ref C)))(k:fi K C)(e:W.kitOne K (.ref C) (.ref D)=some b):gM K H (.ref a) (.ref D) b:=
 ⟨.ref D,rfl,λ _ r=>r,.inr ⟨a,C,rfl,h,k,e⟩⟩
theorem zdc{T:String}{b:Bool}(h:H a=some (eP a (.ref C)))(k:fi K C)(e:W.kitOne K (.ref C) (.type T)=some b):gM K H (.ref a) (.ty T) b:=
 ⟨.type T,rfl,λ _ r=>r,.inr ⟨a,C,rfl,h,k,e⟩⟩
noncomputable def CW(n:Nat)(Pv:Nat->List V->Hp->Prop)(i m:Nat)(acc:List V)(H:Hp):Prop:=m=n - i/\i<=n/\Pv i acc H
theorem cw{Pv:Nat->List V->Hp->Prop}(hi:i < n)(h:Pv (i+1) acc H):∃ m',m' < n - i/\CW n Pv (i+1) m' acc H:=⟨n - (i+1),by omega,rfl,hi,h⟩
theorem de{xs:List V}{fr:List (Option Nat)}(Pv:Nat->List V->Hp->Prop)(h0:Pv 0 [] H)(hl:∀ i acc H,i<=xs.length->Pv i acc H->SqL K H a xs/\acc.length<=i)(hz:xs.length<=sizeLine)(hs:∀ i x acc H,xs[i]?=some x->i < xs.length->Pv i acc H->g x (stC fr σ) H λ σ2 H2=>Wk (stC fr σ) σ2/\tc σ2 H2 λ b H3=>
   if b=true then te σ2 H3 λ y H4=>∃ m',m' < xs.length - i/\CW xs.length Pv (i+1) m' (acc++[y]) H4 else ∃ m',m' < xs.length - i/\CW xs.length Pv (i+1) m' acc H3)(hd:∀ acc H,Pv xs.length acc H->Qe acc H):
  ∃ W:Nat->Nat->List V->Hp->Prop,(∃ m,W 0 m [] H)/\∀ i m acc H,W i m acc H->
   ((Itl K a).stop i H/\Qe acc H)\/
   ((Itl K a).go i H/\acc.length < sizeLine/\∀ x H',(Itl K a).yld i H x H'->g x (stC fr σ) H' λ σ2 H2=>Wk (stC fr σ) σ2/\tc σ2 H2 λ b H3=>
    if b=true then te σ2 H3 λ y H4=>∃ m',m' < m/\W (i+1) m' (acc++[y]) H4 else ∃ m',m' < m/\W (i+1) m' acc H3):=by
 refine ⟨CW xs.length Pv,⟨xs.length,by simp,Nat.zero_le _,h0⟩,?_⟩;rintro i m acc H ⟨rfl,hi,p⟩;obtain ⟨q,ql⟩:=hl i acc H hi p;by_cases hlt:i < xs.length
 ·refine .inr ⟨⟨xs,xs[i],q,by simp [hlt]⟩,by omega,λ x H' y=>?_⟩;obtain ⟨e,y⟩:=y;subst e;exact hs i x acc _ (y xs q) hlt p
 ·have e:i=xs.length:=by omega
  subst e;exact .inl ⟨⟨xs,q,Nat.le_refl _⟩,hd acc H p⟩
theorem gQ{fr:List (Option Nat)}(Pv:Nat->List V->Hp->Prop)(h0:Pv 0 [] H)(hl:∀ i acc H,i<=n->Pv i acc H->acc.length<=i)(hz:n<=sizeLine)(hs:∀ i acc H,i < n->Pv i acc H->g (.int (lo+i)) (stC fr σ) H λ σ2 H2=>Wk (stC fr σ) σ2/\tc σ2 H2 λ b H3=>
   if b=true then te σ2 H3 λ y H4=>∃ m',m' < n - i/\CW n Pv (i+1) m' (acc++[y]) H4 else ∃ m',m' < n - i/\CW n Pv (i+1) m' acc H3)(hd:∀ acc H,Pv n acc H->Qe acc H):
  ∃ W:Nat->Nat->List V->Hp->Prop,(∃ m,W 0 m [] H)/\∀ i m acc H,W i m acc H->
   ((Itr lo n).stop i H/\Qe acc H)\/
   ((Itr lo n).go i H/\acc.length < sizeLine/\∀ x H',(Itr lo n).yld i H x H'->g x (stC fr σ) H' λ σ2 H2=>Wk (stC fr σ) σ2/\tc σ2 H2 λ b H3=>
    if b=true then te σ2 H3 λ y H4=>∃ m',m' < m/\W (i+1) m' (acc++[y]) H4 else ∃ m',m' < m/\W (i+1) m' acc H3):=by
 refine ⟨CW n Pv,⟨n,by simp,Nat.zero_le _,h0⟩,?_⟩;rintro i m acc H ⟨rfl,hi,p⟩;have ql:=hl i acc H hi p;by_cases hlt:i < n
 ·refine .inr ⟨hlt,by omega,λ x H' y=>?_⟩;obtain ⟨e,y⟩:=y;subst e y;exact hs i acc _ hlt p
 ·have e:i=n:=by omega
  subst e;exact .inl ⟨Nat.le_refl _,hd acc H p⟩
theorem tT{A B:Hp->Prop}(h:A H):yx σ H (λ b H3=>if b=true then A H3 else B H3):=by
 have e:(if true=true then A H else B H)=A H:=if_pos rfl;show if true=true then A H else B H
 rw [e];exact h
theorem Fun.okX{f:Addr}{k:Nat}(F:Fun K x qual st f fd)(S:aB N ps (ax st))(len:∀ vs H Q E,sp vs H Q E->vs.length=ps.length)(hbody:∀ (cdv:Value) (A:Around) (outer:List Env) (s:Shared) (H:Hp) (vs:List V) (Q:VK) (E:XK),Room k (A.deeper (envOfC qual (ax st) s.heap.objs.size f cdv))->sp vs H Q E->
   ∃ t,PSs (cX (CXr P w) P w K mg base N qual (ax st) f cdv A outer s H E) (dh st) t/\t { nx:=λ _ H'=>Q .non H',rt:=Q } (gk N vs) H):FnOk P w K mg base (CXr P w) (k+1) f fd ps sp:=by
 obtain ⟨oc,od,kV,doc,pm,an,cdv,ct,osl,rfl,lk,hcd⟩:=F.ex;exact uO lk hcd S len λ A outer s H vs Q E hr hsp=>hbody cdv A outer s H vs Q E hr hsp
theorem aM{p:Addr}(h:Same H H')(hp:H' p=none):Same H (upd H' p o):=λ b u e=>by
 rw [ag (aF (h b u e) hp)];exact h b u e
noncomputable def Cal(P:Program)(w:World)(K:W.Frag)(mg:Str->Option Value)(base:Heap)(CX:CXT)(k:Nat)(x:Str)(ps:List Str)(sp:Sp):Prop:=
 ∃ f fd,FnOk P w K mg base CX k f fd ps sp/\mg x=some (.ref f)/\W.keepIn K (.ref f)=true/\Binds K fd ps []
theorem Cal.pe{k:Nat}{E:XK}{t:TA}(C:Cal X.prog X.w X.K X.mg X.base CX k x ps sp)(hr:Room j X.A)(hx:c9 CX X E)(ha:PA X (e::es) t)(hj:k<=j:=by decide)(hg:Gl X x:=by rfl)(hdb:(x == ("__debug__" : Str))=false:=by decide)(he:starEach (e::es) X.env=(false,eval e X.env)::starEach es X.env:=by rfl)(hpl:(backTo pos (starEach es X.env)).any (·.1)=false:=by rfl):
  PE X (.Call (.Name x p) (e::es) [] pos) (lA sp [] E t):=by
 obtain ⟨f,fd,G,hm,hk,hb⟩:=C;exact zhk G (hr.mono hj) hg hm hk hb .nil hx ha hdb he hpl
noncomputable def bn(P:Program)(w:World)(K:W.Frag)(mg:Str->Option Value)(base:Heap)(CX:CXT)(k:Nat)(C:Addr)(m:Str)(ps:List Str)(sp:Sp):Prop:=
 ∃ f fd,FnOk P w K mg base CX k f fd ps sp/\iH K C m f/\Binds K fd ps []
noncomputable def fM(P:Program)(w:World)(K:W.Frag)(mg:Str->Option Value)(base:Heap)(CX:CXT)(k:Nat)(C:Addr)(ps:List Str)(sp:Sp):Prop:=
 ∃ f fd,FnOk P w K mg base CX k f fd ps sp/\Mk K C f/\Binds K fd ps []
section
variable {a:Expr}
noncomputable def yw(K:W.Frag)(ta:TE):TT:=λ σ H Q=>ta σ H λ x H'=>∃ p xs,x = .ref p/\SqL K H' p xs/\Q (!xs.isEmpty) H'
theorem zhE(ha:PE X a ta)(he:∀ whole,isTrue a X.env whole=(do let v ← whole;standAt a.pos;holding [v] (truthy v)):=by intro _;rfl):PT X a (yw X.K ta):=by
 intro pins s σ H Q I h;exact isTrue_plain (thn (ha pins s σ H _ I h) λ v s1 ⟨x,H1,I1,r1,p,xs,e,hq,q1⟩=>by
  subst e;exact yE pins s1 σ H1 (.ref p) v Q I1 r1 ⟨_,.inl ⟨xs,hq,rfl⟩,q1⟩) (he _)
structure Bx (p:Prop):Prop where
 go:p
inductive yn (t u:TS):eO->St->Hp->Prop
 | mk {D:eO} {σ:St} {H:Hp} (M:St->Hp->Prop) (h:t { D with nx:=M } σ H) (k:∀ σ' H',M σ' H'->u D σ' H'):yn t u D σ H
theorem k8{rest:List Stmt}{t u:TS}(h1:PS X st t)(h2:PSs X rest u):PSs X (st::rest) (yn t u):=by
 intro pins s σ H D I h;obtain ⟨M,h,k⟩:=h;refine wpAny_execs_cons (thn (h1 pins s σ H { D with nx:=M } I h) λ f s1 q=>?_);cases f with
 | next=>
  obtain ⟨σ',H',I',q⟩:=q;exact h2 pins s1 σ' H' D I' (k _ _ q)
 | ret v=>exact q
 | brk=>exact q
 | cont=>exact q
structure sT (c:TT) (tb:TS) (D:eO) (σ:St) (H:Hp):Prop where
 go:yz c tb D σ H
theorem oN(hp:PassesOwn (model X.prog X.w) X.A X.env X.xe)(hc:PT X c tc)(hb:PSs X body tb):PS X (.While c body [] pos) (sT tc tb):=
 λ pins s σ H D I h=>zhC hp hc hb pins s σ H D I h.go
noncomputable def wiM(wi:TI):TI:=λ σ H R=>∃ R':It->Hp->Prop,wi σ H R'/\∀ J H1,R' J H1->R J H1
theorem PI.mono(h:PI X tg iter wi):PI X tg iter (wiM wi):=by
 intro pins s σ H R I q;obtain ⟨R',q,k⟩:=q;exact thn (h pins s σ H R' I q) λ v s1 q1=>thn q1 λ itv s2 ⟨it,fp,tn,J,H2,e,I2,T,st2,f2,r2⟩=>⟨it,fp,tn,J,H2,e,I2,T,st2,f2,k _ _ r2⟩
structure sK (J:It) (g:TG) (tb:TS) (D:eO) (σ:St) (H1:Hp):Prop where
 go:∃ W:Nat->Nat->St->Hp->Prop,(∃ m,W 0 m σ H1)/\∀ i m σ H,W i m σ H->
  (J.stop i H/\D.nx σ H)\/(J.go i H/\∃ N:St->Hp->Prop,(∀ σ' H',N σ' H'->∃ m',m' < m/\W (i+1) m' σ' H')/\∀ x H',J.yld i H x H'->g x σ H' λ σ2 H2=>tb { D with nx:=N,ct:=N,bk:=D.nx } σ2 H2)
noncomputable def zjv(wi:TI)(g:TG)(tb:TS):TS:=λ D σ H=>wi σ H λ J H1=>sK J g tb D σ H1
theorem dO(hp:PassesOwn (model X.prog X.w) X.A X.env X.xe)(hc:X.calm=true)(hi:PI X tg iter wi)(hg:PG X tg g)(hb:PSs X body tb)(hs:∀ x,foldedSetIterable iter X.env x=pure x:=by intro _;rfl):PS X (.For tg iter body [] pos) (zjv wi g tb):=
 λ pins s σ H D I h=>wK hp hc hi.mono hg hb hs pins s σ H D I ⟨_,h,λ _ _ q=>q.go⟩
structure sy (fr:List (Option Nat)) (J:It) (g:TG) (tc:TT) (te:TE) (σ:St) (H1:Hp) (Q:VK):Prop where
  go:∃ W:Nat->Nat->List V->Hp->Prop,(∃ m,W 0 m [] H1)/\∀ i m acc H,W i m acc H->
    (J.stop i H/\∀ p,H p=none->Q (.ref p) (upd H p (.lst acc)))\/
    (J.go i H/\acc.length < sizeLine/\∀ x H',J.yld i H x H'->g x (stC fr σ) H' λ σ2 H2=>Wk (stC fr σ) σ2/\tc σ2 H2 λ b H3=>
       if b=true then te σ2 H3 λ y H4=>∃ m',m' < m/\W (i+1) m' (acc++[y]) H4 else ∃ m',m' < m/\W (i+1) m' acc H3)
noncomputable def ym(fr:List (Option Nat))(wi:TI)(g:TG)(tc:TT)(te:TE):TE:=λ σ H Q=>wi σ H λ J H1=>sy fr J g tc te σ H1 Q
theorem cL{fr:List (Option Nat)}(S:CompScope X N scope fr)(hc:X.calm=true)(hi:PI X tg iter wi)(hb:∀ C fp s H,PG (bh X N scope C fp s H) tg g/\fN (bh X N scope C fp s H) ifs tc/\PE (bh X N scope C fp s H) elt te)(hs:∀ x,foldedSetIterable iter X.env x=pure x:=by intro _;rfl):
  PE X (.ListComp elt [⟨tg,iter,ifs,0⟩] scope pos) (ym fr wi g tc te):=
 λ pins s σ H Q I h=>kW S hc hi.mono hb hs pins s σ H Q I ⟨_,h,λ _ _ q=>q.go⟩
theorem iZ{y:Str}{fr:List (Option Nat)}(hN:X.N.Nodup)(hi':X.N[i]?=some y)(hx:Loc X.env.scope y)(S:CompScope X N scope fr)(hc:X.calm=true)(hi:PI X tg iter wi)(hb:∀ C fp s H,PG (bh X N scope C fp s H) tg g/\fN (bh X N scope C fp s H) ifs tc/\PE (bh X N scope C fp s H) elt te)(hsw:swapsWith (.ListComp elt [⟨tg,iter,ifs,0⟩] scope pos) (some (.Name y py)) spos.line X.env=pure true:=by rfl)(hf:X.fn y=true\/X.env.scope.names.lookup y=some .local:=by first | exact .inl rfl | exact .inr rfl | assumption)(hs:∀ x,foldedSetIterable iter X.env x=pure x:=by intro _;rfl):
  PS X (.Assign [.Name y py] (.ListComp elt [⟨tg,iter,ifs,0⟩] scope pos) spos) (jR (ym fr wi g tc te) (cR i)):=
 λ pins s σ H D I h=>zhz hN hi' hx S hc hi.mono hb hsw hf hs pins s σ H D I ⟨_,h,λ _ _ q=>q.go⟩
theorem r6{c:TT}(Pv:St->Hp->Prop)(μ:St->Hp->Nat)(h0:Pv σ H)(hs:∀ m σ H,m=μ σ H->Pv σ H->c σ H λ b H1=>if b=true then ∃ N:St->Hp->Prop,(∀ σ' H',N σ' H'->∃ m',m' < m/\(m'=μ σ' H'/\Pv σ' H'))/\tb { D with nx:=N,ct:=N,bk:=D.nx } σ H1 else D.nx σ H1):sT c tb D σ H:=
 ⟨λ m σ H=>m=μ σ H/\Pv σ H,⟨_,rfl,h0⟩,λ m σ H ⟨e,p⟩=>hs m σ H e p⟩
theorem wN{Pv:St->Hp->Prop}{μ:St->Hp->Nat}{m:Nat}:∀ σ' H',(Pv σ' H'/\μ σ' H' < m)->∃ m',m' < m/\(m'=μ σ' H'/\Pv σ' H'):=λ _ _ h=>⟨_,h.2,rfl,h.1⟩
theorem fm{xs:List α}{i:Int}{v:α}(h0:0<=i)(h:xs[i.toNat]?=some v):atI xs i=some v:=by
 have:=dU h
 rwa [Int.toNat_of_nonneg h0] at this
theorem Same.new{p:Addr}(hp:H p=none):Same H (upd H p o):=aM (Same.refl H) hp
end
noncomputable def zhR(K:W.Frag):List V->Hp->VK->Prop:=λ xs H Q=>∃ p ys,xs=[.ref p]/\(SqL K H p ys\/SqT K H p ys)/\Q (.int ys.length) H
noncomputable def zhT(K:W.Frag):List V->Hp->VK->Prop:=λ xs H Q=>∃ p ys,xs=[.ref p]/\(SqL K H p ys\/SqT K H p ys)/\∀ l,H l=none->Q (.ref l) (upd H l (.lst ys))
noncomputable def zhP(K:W.Frag):List V->Hp->VK->Prop:=λ xs H Q=>∃ x c b,xs=[x,c]/\gM K H x c b/\Q (.bl b) H
noncomputable def zhK(K:W.Frag):List V->Hp->VK->Prop:=λ xs H Q=>∃ (p:Addr) (bs:List Bool),xs=[.ref p]/\SqL K H p (bs.map V.bl)/\Q (.bl (bs.all id)) H
noncomputable def zhV(K:W.Frag):List V->Hp->VK->Prop:=λ xs H Q=>∃ (p:Addr) (ns:List Int) (M:Int),xs=[.ref p]/\SqL K H p (ns.map V.int)/\M∈ns/\(∀ a∈ns,a<=M)/\Q (.int M) H
noncomputable def zhX(K:W.Frag):List V->Hp->VK->Prop:=λ xs H Q=>∃ (p:Addr) (ns:List Int) (M:Int),xs=[.ref p]/\SqL K H p (ns.map V.int)/\M∈ns/\(∀ a∈ns,M<=a)/\Q (.int M) H
noncomputable def zh4(K:W.Frag):V->List V->Hp->VK->Prop:=λ x vs H Q=>∃ (p:Addr) (xs:List V) (y:V) (j:Nat),x = .ref p/\vs=[y]/\SqT K H p xs/\xs.all bN=true/\bN y=true/\
  (∃ z,xs[j]?=some z/\eqV z y=true)/\(∀ m z,m < j->xs[m]?=some z->eqV z y=false)/\Q (.int j) H
section
variable (K:W.Frag) {a:Expr}
theorem bG(h:X.K=K:=by rfl):IxR X (wS K):=h ▸ vg
theorem fY(h:X.K=K:=by rfl):IxR X (wT K):=h ▸ vi
theorem im(h:X.K=K:=by rfl):SlR X (wW K):=h ▸ zi8
theorem wp(h:X.K=K:=by rfl):OpR X (compareOp .In) (rIn K false):=h ▸ zg7
theorem wv(h:X.K=K:=by rfl):OpR X (compareOp .NotIn) (rIn K true):=h ▸ wu
theorem cJ(h:X.K=K:=by rfl):CallR X (.builtin "len") (zhR K):=by subst h;exact tX
theorem tZ(h:X.K=K:=by rfl):CallR X (.type "list") (zhT K):=by subst h;exact zaW
theorem dk(h:X.K=K:=by rfl):CallR X (.builtin "isinstance") (zhP K):=by subst h;exact zaT
theorem mW(hc:X.calm=true)(h:X.K=K:=by rfl):CallR X (.builtin "all") (zhK K):=by subst h;exact tW hc
theorem za1(hc:X.calm=true)(h:X.K=K:=by rfl):CallR X (.builtin "max") (zhV K):=by subst h;exact za0 hc
theorem za3(hc:X.calm=true)(h:X.K=K:=by rfl):CallR X (.builtin "min") (zhX K):=by subst h;exact t5 hc
theorem zeJ(h:X.K=K:=by rfl):MtR X "tuple.index" (zh4 K):=by subst h;exact vN
theorem wO(ha:PE X a ta)(h:X.K=K:=by rfl)(he:∀ whole,isTrue a X.env whole=(do let v ← whole;standAt a.pos;holding [v] (truthy v)):=by intro _;rfl):PT X a (yw K ta):=by
 subst h;exact zhE ha he
theorem bC{f:Str}(he:PE X e ta)(hb:attributeBase e f X.env (eval e X.env)=eval e X.env)(h:X.K=K:=by rfl):PE X (.Attribute e f pos) (gm K ta f):=by
 subst h;exact cG he hb
variable {o:Expr} {t:TA} {T id:String}
theorem bW(pa:PlainAttrs T)(slot:Slot T name id)(hty:typeOf (.builtin id)=pure (.type "method_descriptor"))(hm:MtR X id r)(ho:PE X o to)(ha:PA X (e::es) t)(h:X.K=K:=by rfl)(hbase:attributeBase o name X.env (eval o X.env)=eval o X.env:=by rfl)(hfew:((backTo cpos (starEach (e::es) X.env)).all (λ x=>!x.1) && (backToKw cpos (keywordEach [] X.env)).all (λ x=>x.1.isSome)
   && decide ((e::es).length+([]:List Keyword).length+(if ([]:List Keyword).isEmpty then 0 else 1) < 30))=true:=by rfl)(hline:(apos.endLine == cpos.line)=true:=by rfl)(hs:starEach (e::es) X.env=(false,eval e X.env)::starEach es X.env:=by rfl)(hplain:(backTo cpos (starEach es X.env)).any (·.1)=false:=by rfl):
  PE X (.Call (.Attribute o name apos) (e::es) [] cpos) (tBM K T r to t):=by
 subst h;exact oC pa slot hty hm ho ha hbase hfew hline hs hplain
end
theorem Inv.turnedL(I:Inv X pins σ H s)(k:∀ b o,b∉ch->s.heap.get? b=some o->h'.get? b=some o)(hf:∀ b∈ch,eQ X pins H b):Inv X pins σ H { s with heap:=h',toks:=t' }:=by
 have nit:∀ b u,H b=some u->b∉ch:=λ b u e z=>by rw [(hf b z).1] at e;cases e
 refine I.step (g':=s.gens) (d':=s.drawn) (ch:=ch) (λ b hb=>?_) (λ b o _ _ hc e _=>k b o hc e) (λ b o _ _ hc e _=>⟨o.slots,k b o hc e⟩) (λ _ _ _ _ n=>n)
  (λ b o hc e=>⟨o,k b o hc e⟩) (λ _ _ e=>e) (λ _ _ _ e=>e) (λ b ps e=>⟨#[],by rw [e];simp⟩) (λ m hm=>?_) (λ b u e=>?_) I.bare
 ·obtain ⟨f0,f1,f2,f3,f4,f5⟩:=hf b hb;exact ⟨f3,f1,f4,f5⟩
 ·obtain ⟨o,es,ep,ho,r⟩:=hm;exact ⟨o,es,ep,k _ o (λ z=>(hf _ z).2.1 rfl) ho,r⟩
 ·refine (I.hok b u e).stay (λ c v hc q=>k c v ?_ q) (λ _ q=>q) λ _ _ q=>q;rcases hc with z | z
  ·rw [z];exact nit b u e
  ·exact nit c _ z
noncomputable def Itz(K:W.Frag)(a b:Addr):It:=
  ⟨λ i H=>∃ xs ys x y,SqL K H a xs/\SqL K H b ys/\xs[i]?=some x/\ys[i]?=some y,
   λ i H v H'=>∃ T,H T=none/\v = .ref T/\∀ xs ys,SqL K H a xs->SqL K H b ys->∃ x y,xs[i]?=some x/\ys[i]?=some y/\H'=upd H T (.tup [x,y]),
   λ i H=>∃ xs ys,SqL K H a xs/\SqL K H b ys/\(xs.length<=i\/ys.length<=i)⟩
theorem in5{c e f:Addr}(h:c∈[a,b,d,e,f]):c=a\/c=b\/c=d\/c=e\/c=f:=by simpa using h
theorem lz{c TI TO:Addr}(h:c∈[z,TO,i1,i2]):c∈[z,TI,TO,i1,i2]:=by cases h with | head=>exact .head _ | tail _ h=>exact .tail _ (.tail _ h)
theorem gz{x c:Addr}(h1:x≠a)(h2:x≠b)(h3:x≠c):x∉[a,b,c]:=by simp [h1,h2,h3]
theorem kK{x c:Addr}(h:x∉[a,b,c,d]):x≠a/\x≠b/\x≠c/\x≠d:=by simpa using h
theorem zjX{k:Nat}(a b z TI TO i1 i2:Addr)(D:ZipApart z TI TO i1 i2 a b):
  fO P w K (.Tuple elts k pos) (Itz K a b) [z,TI,TO,i1,i2] z (λ i h=>IsZip h z TI TO .none/\IsPair h TI (.ref i1) (.ref i2)/\(∃ c d,IsPair h TO c d)/\h.IsListIter i1 a i/\h.IsListIter i2 b i) where
 mem:=by simp
 obj:=λ i h st c hc=>by
  obtain ⟨h1,h2,⟨_,_,h3⟩,⟨o1,e1,c1,d1⟩,⟨o2,e2,c2,d2⟩⟩:=st;rcases in5 hc with rfl | rfl | rfl | rfl | rfl
  ·exact ⟨_,h1,λ v z=>by cases z⟩
  ·exact ⟨_,h2,λ v z=>by cases z⟩
  ·exact ⟨_,h3,λ v z=>by cases z⟩
  ·exact ⟨o1,e1,λ v z=>by rw [d1] at z;cases z⟩
  ·exact ⟨o2,e2,λ v z=>by rw [d2] at z;cases z⟩
 keep:=λ i h h' st kk=>by
  obtain ⟨h1,h2,⟨c,d,h3⟩,h4,h5⟩:=st;exact ⟨kk z (.head _) _ h1,kk TI (.tail _ (.head _)) _ h2,⟨c,d,kk TO (.tail _ (.tail _ (.head _))) _ h3⟩,h4.at λ o e=>kk i1 (.tail _ (.tail _ (.tail _ (.head _)))) o e,h5.at λ o e=>kk i2 (.tail _ (.tail _ (.tail _ (.tail _ (.head _))))) o e⟩
 item:=by
  intro X hP hw hK hc i pins s σ H E I hf st hg;subst hP hw hK;obtain ⟨xs,ys,x,y,hqa,hqb,hx,hy⟩:=hg;obtain ⟨ia,ra,pa,_⟩:=I.list hqa;obtain ⟨ib,rb,pb,_⟩:=I.list hqb;obtain ⟨ux,hux,rux⟩:=ra.get hx;obtain ⟨uy,huy,ruy⟩:=rb.get hy;have hia:i < ia.length:=(al_gs.mp hux).1;have hib:i < ib.length:=(al_gs.mp huy).1;have W:=WalksT.zip2 (prog:=X.prog) (w:=X.w) (I.ok.hd hc) z TI TO i1 i2 a b D ia.toArray ib.toArray;obtain ⟨h1,h2,h3,h4,h5⟩:=id st;refine W.item i s _ _ (by rw [a9,a9];omega) ⟨h1,h2,h3,h4,h5,pa.isList,pb.isList⟩ λ T vals h' tk hP hT hTup hM hk=>?_;refine ⟨.ref T,rfl,W.go elts k pos i T { s with heap:=h',toks:=tk } _ _ hM λ h'' st' hk'=>?_⟩;obtain ⟨x',y',ex,ey,rfl⟩:=hP;have ex':ux=x':=by
   have:ia[i]?=some x':=by simpa using ex
   rw [hux] at this;exact Option.some.inj this
  have ey':uy=y':=by
   have:ib[i]?=some y':=by simpa using ey
   rw [huy] at this;exact Option.some.inj this
  subst ex' ey';have I1:Inv X pins σ H { s with heap:=h'',toks:=tk }:=I.turnedL (ch:=[z,TO,i1,i2]) (λ c o hc' e=>hk' c o hc' (hk c o hc' e)) λ c hc'=>hf c (lz hc');have hTn:H T=none:=I.hok.fresh hT;have hTup2:IsTup h'' T #[ux,uy]:=hTup.at λ o e=>hk' T o (W.apart i T _ hM) e;have ltT:∀ {c:Addr} {o:Obj},s.heap.get? c=some o->c≠T:=λ e=>Nat.ne_of_lt (Nat.lt_of_lt_of_le (Heap.lt_size e) hT);have I2:Inv X pins σ (upd H T (.tup [x,y])) { s with heap:=h'',toks:=tk }:=by
   refine I1.track hTn ?_ (λ e=>?_) (λ n c e q=>?_) (λ p hp e=>?_) ?_
   ·cases q:X.s₀.heap.get? T with
    | none=>rfl
    | some o=>exact absurd (Nat.lt_of_lt_of_le (Heap.lt_size q) (Nat.le_trans I.sz hT)) (Nat.lt_irrefl _)
   ·exact absurd (Nat.lt_of_lt_of_le I.lt hT) (by rw [e];exact Nat.lt_irrefl _)
   ·obtain ⟨v,o,ho,_⟩:=I.cell n c e;exact ltT ho q
   ·exact ltT (I.pin p hp).1 e
   ·exact ⟨by show 2<=sizeLine;decide,[ux,uy],.cons rux (.cons ruy .nil),hTup2⟩
  refine ⟨.ref T,_,I2,rfl,⟨T,hTn,rfl,λ xs' ys' qa qb=>?_⟩,⟨st'.1,st'.2.1,st'.2.2.1,st'.2.2.2.1,st'.2.2.2.2.1⟩,λ c hc'=>?_⟩
  ·rw [I.list_inj qa hqa,I.list_inj qb hqb];exact ⟨x,y,hx,hy,rfl⟩
  ·have:c≠T:=by
    obtain ⟨c1,d1,h3⟩:=h3;obtain ⟨o1,e1,_⟩:=h4;obtain ⟨o2,e2,_⟩:=h5;rcases in5 hc' with rfl | rfl | rfl | rfl | rfl
    ·exact ltT h1
    ·exact ltT h2
    ·exact ltT h3
    ·exact ltT e1
    ·exact ltT e2
   rw [ag this];exact (hf c hc').1
 done:=by
  intro X hP hw hK hc i pins s σ H E I hf st hg;subst hP hw hK;obtain ⟨xs,ys,hqa,hqb,hl⟩:=hg;obtain ⟨ia,ra,pa,_⟩:=I.list hqa;obtain ⟨ib,rb,pb,_⟩:=I.list hqb;obtain ⟨h1,h2,⟨c,d,h3⟩,h4,h5⟩:=id st;have l1:=ra.length;have l2:=rb.length;refine wpAny_pyNext_zip_end (I.ok.hd hc) D h1 h2 h3 h4 h5 pa.isList pb.isList ?_ λ h' hk=>⟨rfl,I.turnedL (t':=s.toks) (ch:=[z,TO,i1,i2]) (λ c o hc' e=>hk c o (λ q=>hc' (by simp [q])) (λ q=>hc' (by simp [q])) (λ q=>hc' (by simp [q])) (λ q=>hc' (by simp [q])) e) λ c hc'=>hf c (lz hc')⟩
  rcases hl with h | h
  ·exact .inl (by simp;omega)
  ·exact .inr (by simp;omega)
 self:=λ _ _ _ _ _ st h=>wpAny_pyIter_zip st.1 h
noncomputable def zcZ(K:W.Frag)(ta:TA):TI:=λ σ H R=>ta σ H λ vs H1=>∃ a b xs ys,vs=[.ref a,.ref b]/\SqL K H1 a xs/\SqL K H1 b ys/\R (Itz K a b) H1
theorem wE(K:W.Frag){k:Nat}{a b:Expr}{ta:TA}(hg:Gl X "zip")(hm:X.mg "zip" = none)(ha:PA X [a,b] ta)(hK:X.K=K:=by rfl)(hs:starEach [a,b] X.env=[(false,eval a X.env),(false,eval b X.env)]:=by rfl)(hs2:starEach [b] X.env=[(false,eval b X.env)]:=by rfl):
  PI X (.Tuple elts k tpos) (.Call (.Name "zip" p) [a,b] [] pos) (zcZ K ta):=by
 subst hK;intro pins s σ H R I h;refine Call_ (fb I hg hm PyProof.Rows.Boot.«zip» (PyProof.Rows.callWith_type1 (thn (ha pos pins s σ H _ I h) λ us s1 ⟨vs,H1,I1,r1,q1⟩=>?_) (by rw [hs,hs2]) (by rw [hs2];rfl)));obtain ⟨a,b,xs,ys,e,qa,qb,q⟩:=q1;subst e;cases r1 with
 | cons r rr=>
  cases rr with
  | cons r' rr=>
   cases rr;cases r;cases r';obtain ⟨ia,ra,pa,_⟩:=I1.list qa;obtain ⟨ib,rb,pb,_⟩:=I1.list qb;have la:a < s1.heap.objs.size:=by obtain ⟨o,_,e,_⟩:=pa;exact Heap.lt_size e
   have lb:b < s1.heap.objs.size:=by obtain ⟨o,_,e,_⟩:=pb;exact Heap.lt_size e
   refine call_zip_2 pa.isList pb.isList λ h' z1 z2 z3 z4 z5 hsz hk=>?_;refine wpAny_pyIter_zip z1 ?_;refine ⟨s1.heap.objs.size+4,[s1.heap.objs.size+4,s1.heap.objs.size+2,s1.heap.objs.size+3,s1.heap.objs.size,s1.heap.objs.size+1],_,_,H1,rfl,I1.kept (t':=s1.toks) hk,zjX a b _ _ _ _ _ (zipApart_new la lb),⟨z1,z2,⟨_,_,z3⟩,z4,z5⟩,λ c hc=>?_,q⟩;have:s1.heap.objs.size<=c:=by
    simp only [al_mc,List.not_mem_nil,or_false] at hc;rcases hc with rfl | rfl | rfl | rfl | rfl <;> omega
   exact I1.fpOk this (I1.hok.fresh this)
theorem gE(K:W.Frag){k:Nat}{t:TGs}(hc:X.calm=true)(h:PGs X es t)(hK:X.K=K:=by rfl)(hn:(assignEach es X.env).length=n:=by rfl)(hst:(assignEach es X.env).findIdx? (·.1)=none:=by rfl):PG X (.Tuple es k pos) (uY K n t):=by
 subst hK;exact zhr hc h hn hst
theorem ui{xs:List V}{fr:List (Option Nat)}(Pv:Nat->List V->Hp->Prop)(h0:Pv 0 [] H)(n:Nat)(hn:n=min xs.length ys.length)(hl:∀ i acc H,i<=n->Pv i acc H->SqL K H a xs/\SqL K H b ys/\acc.length<=i)(hz:n<=sizeLine)(hs:∀ i x y acc H T,xs[i]?=some x->ys[i]?=some y->i < n->Pv i acc H->H T=none->g (.ref T) (stC fr σ) (upd H T (.tup [x,y])) λ σ2 H2=>Wk (stC fr σ) σ2/\tc σ2 H2 λ b H3=>
   if b=true then te σ2 H3 λ y H4=>∃ m',m' < n - i/\CW n Pv (i+1) m' (acc++[y]) H4 else ∃ m',m' < n - i/\CW n Pv (i+1) m' acc H3)(hd:∀ acc H,Pv n acc H->Qe acc H):
  ∃ W:Nat->Nat->List V->Hp->Prop,(∃ m,W 0 m [] H)/\∀ i m acc H,W i m acc H->
   ((Itz K a b).stop i H/\Qe acc H)\/
   ((Itz K a b).go i H/\acc.length < sizeLine/\∀ x H',(Itz K a b).yld i H x H'->g x (stC fr σ) H' λ σ2 H2=>Wk (stC fr σ) σ2/\tc σ2 H2 λ b H3=>
    if b=true then te σ2 H3 λ y H4=>∃ m',m' < m/\W (i+1) m' (acc++[y]) H4 else ∃ m',m' < m/\W (i+1) m' acc H3):=by
 refine ⟨CW n Pv,⟨n,by simp,Nat.zero_le _,h0⟩,?_⟩;rintro i m acc H ⟨rfl,hi,p⟩;obtain ⟨qa,qb,ql⟩:=hl i acc H hi p;by_cases hlt:i < n
 ·refine .inr ⟨⟨xs,ys,xs[i]'(by omega),ys[i]'(by omega),qa,qb,by simp,by simp⟩,by omega,λ v H' yy=>?_⟩;obtain ⟨T,hT,rfl,yy⟩:=yy;obtain ⟨x,y,hx,hy,rfl⟩:=yy xs ys qa qb;exact hs i x y acc _ T hx hy hlt p hT
 ·have e:i=n:=by omega
  subst e;exact .inl ⟨⟨xs,ys,qa,qb,by omega⟩,hd acc H p⟩
theorem PS.nox{t:TS}(h:PS X.nox st t):PS X st t:=λ pins s σ H D I hw=>
 wpAny_mono (h pins s σ H D (I.wish _) hw) (λ _ _ q=>q.unwish) λ _ _ z=>False.elim z
theorem cx    : c9 (CXr P w) X E0:=λ _ _ _ _ _ _ _ ⟨_,_,_,_,_,_,_,_,_,_,_,_,_,h⟩=>h.elim
section
variable (K:W.Frag)
noncomputable def zhY(K:W.Frag):R2:=λ x y H Q=>∃ (p q:Addr) (xs ys:List V),x = .ref p/\y = .ref q/\SqL K H p xs/\SqL K H q ys/\xs.all bN=true/\ys.all bN=true/\Q (.bl (!fw xs ys)) H
theorem wt(hu:X.A.units+1 < cLine)(hK:X.K=K:=by rfl):OpR X (compareOp .NotEq) (zhY K):=by
 subst hK;have hu:X.A.units < cLine:=Nat.lt_of_succ_lt hu;intro pins s σ H x y v u Q I rx ry h;obtain ⟨p,q,xs,ys,rfl,rfl,hp,hq,fx,fy,k⟩:=h;cases rx;cases ry;obtain ⟨its,r,pl,_⟩:=I.list hp;obtain ⟨its2,r2,pl2,_⟩:=I.list hq;have l1:=r.length;have l2:=r2.length;show wpAny (model X.prog X.w) X.A (richCompare .NotEq (.ref p) (.ref q)) _ _ s;by_cases e:xs.length=ys.length
 ·refine SeqAt.RcNeAt.lists (e:=λ j=>eqV (xs.getD j .non) (ys.getD j .non)) pl.isList pl2.isList (by rw [a9,a9];omega) hu (λ j h1 h2=>?_) X.prog X.w _ _ ?_
  ·rw [a9] at h1 h2;obtain ⟨a,ha,ra⟩:=r.get (i:=j) (x:=xs[j]'(by omega)) (by simp);obtain ⟨b,hb,rb⟩:=r2.get (i:=j) (x:=ys[j]'(by omega)) (by simp);have ea:its.toArray[j]=a:=by
    have:its[j]?=some its[j]:=by simp
    rw [this] at ha;simpa using Option.some.inj ha
   have eb:its2.toArray[j]=b:=by
    have:its2[j]?=some its2[j]:=by simp
    rw [this] at hb;simpa using Option.some.inj hb
   rw [ea,eb];have g1:xs.getD j .non=xs[j]'(by omega):=by simp [List.getD,show j < xs.length by omega]
   have g2:ys.getD j .non=ys[j]'(by omega):=by simp [List.getD,show j < ys.length by omega]
   rw [g1,g2];exact uu ra rb (List.all_eq_true.mp fx _ (List.getElem_mem _)) (List.all_eq_true.mp fy _ (List.getElem_mem _))
  ·refine ⟨.bl (!fw xs ys),H,I,?_,k⟩;show _=Value.bool _;rw [a9,← l1,uz e]
 ·refine SeqAt.RcNeAt.lists_lengths pl.isList pl2.isList (by rw [a9,a9];simp;omega) hu X.prog X.w _ _ ⟨.bl (!fw xs ys),H,I,?_,k⟩;rw [uw e];rfl
end
section
variable (K:W.Frag)
noncomputable def yu(K:W.Frag)(te:TE):TE:=λ σ H Q=>te σ H λ x H1=>∃ a xs,x = .ref a/\SqL K H1 a xs/\∀ p,H1 p=none->Q (.ref p) (upd H1 p (.lst xs.reverse))
theorem zld{st:Expr}(he:PE X e te)(hst:PE X st (tUn (rU λ i=>.int (-i)) (tC (.int 1))))(hK:X.K=K:=by rfl):PE X (.Subscript e (.Slice none none (some st) p2) pos) (yu K te):=by
 subst hK;intro pins s σ H Q I h;refine Subscript_ (thn (he pins s σ H _ I h) λ v s1 ⟨x,H1,I1,r1,q1⟩=>?_);obtain ⟨a,xs,rfl,hq,q⟩:=q1;cases r1;refine wpAny_Slice ?_;rw [evalPart_none];refine aG (aG ?_);refine thn (eI hst pins s1 σ H1 (λ o H'=>o=some (-1)/\H'=H1) I1 ⟨1,rfl,-1,rfl,rfl,rfl⟩) λ u s3 ⟨o,H3,I3,pu,e1,e2⟩=>?_;subst e1 e2;have I4:Inv X pins σ H3 { s3 with heap:=s3.heap.push { cls:=.type "slice", data:=.fields #[.none,.none,u] } }:=I3.kept (t':=s3.toks) λ b ob q=>aY _ q;obtain ⟨its,r,ht,hz⟩:=I4.list hq;have hlen:=r.length;show wpAny (model X.prog X.w) X.A (subscriptTail e (.Slice none none (some st) p2) (.ref a) (.ref s3.heap.objs.size)) (EP X pins σ Q) X.xe { s3 with heap:=s3.heap.push { cls:=.type "slice", data:=.fields #[.none,.none,u] } };refine tail_any (ops:=[.ref a,.ref s3.heap.objs.size]) ht.isList.typeIs slot_list_getitem.lookup (wpAny_getItem_list_slice ht.isList (Heap.IsSliceOf.new ..) .none .none pu (by simp) ?_ (by rw [a9] <;> omega)) (by with_unfolding_all rfl);rw [W.krv_pick];refine ⟨.ref _,_,I4.laid (t':=s3.toks) (o:=.lst xs.reverse) (λ b ob q=>aY _ q) (Nat.le_refl _) ?_,rfl,q _ (I4.hok.fresh (Nat.le_refl _))⟩;refine ⟨by rw [List.length_reverse];exact hz,its.reverse,0,?_,Heap.get?_push_size _ rfl⟩;have rev:∀ {xs:List V} {us:List Value},Vals xs us->Vals xs.reverse us.reverse:=by
  intro xs us r;induction r with
  | nil=>exact .nil
  | cons h t ih=>rw [List.reverse_cons,List.reverse_cons];exact ih.append (.cons h .nil)
 exact rev r
end
theorem zft:typeLookup (.type "list_reverseiterator") "__len__" = pure none:=by rw [typeLookup_type,builtinLookup_eq_fast];kernel_rfl
theorem zck:typeLookup (.type "list_reverseiterator") "__length_hint__" = pure (some (.builtin "list_reverseiterator.__length_hint__")):=by rw [typeLookup_type,builtinLookup_eq_fast];kernel_rfl
theorem zbD{l:Addr}(hh:A.handled=none)(hst:s.heap.IsRevIter I l ((items.size:Int) - 1))(hl:s.heap.IsList l items)(hne:l≠I)(hn:items.size<=sizeLine)(S:Addr)(res:Value)(c₀:Nat)(hS:s.heap.get? S=some { cls:=.type "list", data:=.seq #[] c₀ })(hSI:S≠I)(hSl:S≠l)(hR:∀ h' tk acc' c',(∀ b o,b≠S->b≠I->s.heap.get? b=some o->h'.get? b=some o)->h'.get? S=some { cls:=.type "list", dict:=none,data:=.seq acc' c',slots:=#[] }->
   ItemsOf (λ i v=>items[items.size - 1 - i]?=some v) acc' items.size->R (.ok (.ret res)) { s with heap:=h',toks:=tk }):
  wpAny (model prog w) A.in1 (Builtin.List.listExtendWith (.ref S) (.ref I) res)
   (λ fin s'=>match fin with | .done f=>R (.ok f) s' | .again c'=>c'.quiet=true/\codeAny (model prog w) A c' R s') (λ e s'=>R (.error e) s') s:=by
 have W:=(Walks.listRev (prog:=prog) (w:=w) (A:=A.in1) hh I l hne items).toS;have st0:(0:Nat)<=items.size/\s.heap.IsRevIter I l ((items.size:Int) - 1 - ((0:Nat):Int))/\s.heap.IsList l items:=⟨Nat.zero_le _,by simpa using hst,hl⟩
 have hSf:S∉[I,l]:=by simp [hSI,hSl]
 have hT:s.TypeIs (.ref I) "list_reverseiterator" := hst.typeIs;unfold Builtin.List.listExtendWith;refine af (wpAny_typeOf hT ?_);have h1:Builtin.List.listSameRef (.ref S) (.ref I)=false:=by simp [Builtin.List.listSameRef,hSI]
 have h2:(Value.type "list_reverseiterator" == Value.type "list")=false:=by decide
 have h3:(Value.type "list_reverseiterator" == Value.type "tuple")=false:=by decide
 simp only [h1,h2,h3,Bool.or_false,Bool.false_eq_true,if_false];refine af (wpAny_pyIter_revIter hst ?_);refine af (wpAny_holding ?_);unfold Builtin.List.listLengthHint;refine af (wpAny_specialOf hT zft ?_);show wpAny _ A.in1 (specialOf (Value.ref I) (Str.ofString "__length_hint__") >>= _) _ _ _;refine af (wpAny_specialOf hT zck ?_)
 (generalize hid:("list_reverseiterator.__length_hint__" : String)=id0;wp_delta;rw [show splitId id0=some ("list_reverseiterator", "__length_hint__") from by subst hid;decide +kernel];subst hid)
 refine af (wpAny_isInstance (b:=true) hT (by rw [isSubtype_type];kernel_rfl) ?_);refine aG ?_;rw [if_neg (by decide)];refine aG ⟨plainId_quiet F.plain_extend_loop _,codeAny_extend_loopS W hn _ hSf _ items.size 0 _ _ _ rfl (Nat.zero_le _) st0 hS (ItemsOf.nil _) λ s' acc' c' hm hS' hacc=>?_⟩;rw [Moved.eq_with hm];refine hR s'.heap s'.toks acc' c' (λ b ob hb hbI e=>hm.heap b ob (λ hmem=>?_) e) hS' hacc;rcases al_mc.mp hmem with e' | hmem
 ·exact hb e'
 ·exact hbI (by simpa using hmem)
theorem zaX{l:Addr}(hh:A.handled=none)(hst:s.heap.IsRevIter I l ((items.size:Int) - 1))(hl:s.heap.IsList l items)(hne:l≠I)(hn:items.size<=sizeLine)(hQ:∀ h' tk acc' c',(∀ b o,b≠I->s.heap.get? b=some o->h'.get? b=some o)->
   h'.get? s.heap.objs.size=some { cls:=.type "list", dict:=none,data:=.seq acc' c',slots:=#[] }->ItemsOf (λ i v=>items[items.size - 1 - i]?=some v) acc' items.size->Q (.ref s.heap.objs.size) { s with heap:=h',toks:=tk }):
  wpAny (model prog w) A (call (.type "list") [.ref I]) Q E s:=by
 refine callType_codes (Q₁:=λ obj s₁=>obj = .ref s.heap.objs.size/\s₁={ s with heap:=s.heap.push { cls:=.type "list", data:=.seq #[] } }) F.called_list (F.typeCall_list_1 _) F.entry_list_init
  (code_list_new _ ⟨rfl,rfl⟩) λ obj s₁ h₁=>?_
 obtain ⟨rfl,rfl⟩:=h₁;have hS:(s.heap.push { cls:=.type "list", data:=.seq #[] }).get? s.heap.objs.size=some { cls:=.type "list", data:=.seq #[] }:=Heap.get?_push_size _ rfl;have ltI:I < s.heap.objs.size:=by obtain ⟨o,e,_⟩:=hst;exact Heap.lt_size e
 have ltl:l < s.heap.objs.size:=by obtain ⟨o,e,_⟩:=hl;exact Heap.lt_size e
 refine ⟨⟨_,hS,rfl⟩,F.args_list_init_2 _ _,?_⟩;show wpAny _ _ (do let old ← Builtin.List.listItems (.ref s.heap.objs.size);Builtin.List.listUpdate (.ref s.heap.objs.size) (λ _=>#[]);letGo old.toList.reverse;Builtin.List.listExtendWith (.ref s.heap.objs.size) (.ref I) .none) _ _ _;refine af ?_;unfold Builtin.List.listItems;refine af (wpAny_seqItems hS rfl (aG ?_));show wpAny _ _ (updateSeq s.heap.objs.size (λ _=>#[]) >>= λ _=>letGo (#[]:Array Value).toList.reverse >>= λ _=>Builtin.List.listExtendWith (.ref s.heap.objs.size) (.ref I) .none) _ _ _;refine af (wpAny_updateSeq hS rfl ?_);have hS₂:=Heap.get?_update_self (Obj.mapSeq (λ _=>(#[]:Array Value))) hS rfl;have oth:∀ b o,b≠s.heap.objs.size->s.heap.get? b=some o->((s.heap.push { cls:=.type "list", data:=.seq #[] }).update s.heap.objs.size (Obj.mapSeq (λ _=>(#[]:Array Value)))).get? b=some o:=
  λ b o hb e=>(Heap.get?_update_other _ _ (Ne.symm hb)).trans (aY _ e)
 refine af (wpAny_letGo ?_);refine zbD (A:=A.in1) hh (hst.at λ o e=>oth _ o (Nat.ne_of_lt ltI) e) (hl.at λ o e=>oth _ o (Nat.ne_of_lt ltl) e) hne hn _ .none _ hS₂ (Nat.ne_of_gt ltI) (Nat.ne_of_gt ltl) λ h' tk acc' c' hk hS' hacc=>?_;exact ⟨rfl,hQ h' tk acc' c' (λ b o hb e=>hk b o (Nat.ne_of_lt (Heap.lt_size e)) hb (oth b o (Nat.ne_of_lt (Heap.lt_size e)) e)) hS' hacc⟩
section
variable (K:W.Frag)
theorem Vals.rev:∀ {xs:List V} {us:List Value},Vals xs us->Vals xs.reverse us.reverse:=by
 intro xs us r;induction r with
 | nil=>exact .nil
 | cons h t ih=>rw [List.reverse_cons,List.reverse_cons];exact ih.append (.cons h .nil)
theorem zdh{acc:Array Value}(h:ItemsOf (λ i v=>its.toArray[its.toArray.size - 1 - i]?=some v) acc its.toArray.size):acc=its.reverse.toArray:=by
 obtain ⟨h1,h2⟩:=h;apply Array.ext
 ·simp [h1]
 ·intro i a1 a2;have q:its.toArray[its.toArray.size - 1 - i]?=some acc[i]:=h2 i acc[i] (by simp [a1]);have hi:i < its.length:=by simpa using a2
  have e:its.toArray.size - 1 - i=its.length - 1 - i:=by simp
  rw [e] at q;have lt:its.length - 1 - i < its.length:=by omega
  simp [lt] at q;simp [q]
theorem zho(hc:X.calm=true)(hg1:Gl X "list")(hm1:X.mg "list" = none)(hg2:Gl X "reversed")(hm2:X.mg "reversed" = none)(he:PE X e te)(hK:X.K=K:=by rfl)(hs:starEach [e] X.env=[(false,eval e X.env)]:=by rfl):
  PE X (.Call (.Name "list" p2) [.Call (.Name "reversed" p3) [e] [] p4] [] pos) (yu K te):=by
 subst hK;intro pins s σ H Q I h;refine wpAny_Call_Name_kw (fb I hg1 hm1 PyProof.Rows.Boot.«list» ?_ (by decide) (by decide));refine PyProof.Rows.callWith_type1 (e:=.Call (.Name "reversed" p3) [e] [] p4) (rest:=[]) ?_ rfl rfl;show wpAny _ _ (spliced ((false,eval (.Call (.Name "reversed" p3) [e] [] p4) X.env)::backTo pos (starEach [] X.env))) _ _ s;refine Calls.spliced_cons ?_;refine wpAny_Call_Name_kw (fb I hg2 hm2 PyProof.Rows.Boot.«reversed» ?_ (by decide) (by decide));refine PyProof.Rows.callWith_type1 (e:=e) (rest:=[]) ?_ (by rw [hs];rfl) rfl;rw [hs];show wpAny _ _ (spliced ((false,eval e X.env)::[])) _ _ s;refine Calls.spliced_cons (thn (he pins s σ H _ I h) λ u s1 ⟨x,H1,I1,r1,a,xs,e1,hq,q⟩=>Calls.spliced_nil ?_);subst e1;cases r1;obtain ⟨its,rv,pl,hz⟩:=I1.list hq;have hlen:=rv.length;have lt:a < s1.heap.objs.size:=by obtain ⟨o,_,e,_⟩:=pl;exact Heap.lt_size e
 refine call_reversed_list pl.isList ?_;refine Calls.spliced_nil ?_;have hst:(s1.heap.push (revObj a ((its.toArray.size:Int) - 1))).IsRevIter s1.heap.objs.size a ((its.toArray.size:Int) - 1):=⟨_,Heap.get?_push_size _ rfl,rfl,rfl⟩
 refine zaX (I.ok.hd hc) hst (pl.isList.push _) (Nat.ne_of_lt lt) (by rw [a9];omega) λ h' tk acc' c' hk hS' hacc=>?_;rw [zdh hacc] at hS';have keep:∀ b o,s1.heap.get? b=some o->h'.get? b=some o:=λ b o e=>hk b o (Nat.ne_of_lt (Heap.lt_size e)) (aY _ e);have hsz:s1.heap.objs.size<=(s1.heap.push (revObj a ((its.toArray.size:Int) - 1))).objs.size:=by rw [Heap.size_push];omega
 refine ⟨.ref _,_,I1.laid (t':=tk) (o:=.lst xs.reverse) keep hsz ⟨by rw [List.length_reverse];exact hz,its.reverse,c',rv.rev,hS'⟩,rfl,q _ (I1.hok.fresh hsz)⟩
end
noncomputable def bi(ys:List Str):Str:=⟨((ys.map λ y=>y.cps.toList).flatten).toArray⟩
theorem i6{a b:Str}(h:a.cps.toList=b.cps.toList):a=b:=by
 cases a;cases b;simp only [Str.mk.injEq];exact Array.toList_inj.mp h
theorem df(a b:Str):(a++b).cps.toList=a.cps.toList++b.cps.toList:=by
 show (a.cps++b.cps).toList=_;exact Array.toList_append
theorem yI:∀ {ys:List Str} {us:List Value},Vals (ys.map V.str) us->StrsAre us ys
 | [],_,.nil=>.nil
 | y::_,_,.cons r t=>by
  obtain ⟨k,rfl⟩:=(show ∃ t,_=Value.str y t from r)
  exact .cons y k (yI t)
section
variable (K:W.Frag)
theorem iT(h:X.K=K:=by rfl):MtR X "str.join" (λ x vs H Q=>∃ (z:Str) (p:Addr) (ys:List Str),x = .str z/\vs=[.ref p]/\SqL K H p (ys.map V.str)/\(ys.map (·.length)).sum+ys.length * z.length<=16777216/\Q (.str (Txt.join z ys)) H):=by
 subst h;intro pins s σ H x vs v us Q I rx rv hh;obtain ⟨z,p,ys,rfl,rfl,hq,hz,q⟩:=hh;obtain ⟨t,rfl⟩:=rx;obtain ⟨u,rfl,ru⟩:=rv.one;cases ru;obtain ⟨its,r',pl,_⟩:=I.list hq;exact join_list pl.isList (by simpa using yI r') hz λ t' k=>⟨.str _,H,I.tok _,⟨_,rfl⟩,q⟩
end
theorem zfo:("" : Str).cps.toList=[]:=rfl
theorem join_nil':∀ ys:List Str,(Str.join "" ys).cps.toList=(ys.map λ y=>y.cps.toList).flatten
 | []=>rfl
 | [x]=>by simp [Str.join]
 | x::y::r=>by
  show ((x++("" : Str))++Str.join "" (y::r)).cps.toList=_;rw [df,df,join_nil' (y::r),zfo,List.append_nil];rfl
theorem iO(ys:List Str):Txt.join "" ys=bi ys:=by
 exact (StrLaws.glued_eq_join _ _).trans (i6 (join_nil' ys))
theorem eX(ys:List Str):(bi ys).cps.toList=(ys.map λ y=>y.cps.toList).flatten:=rfl
theorem fz(ys:List Str):(bi ys).length=(ys.map (·.length)).sum:=by
 show (bi ys).cps.size=_;rw [← Array.length_toList,eX,List.length_flatten,List.map_map];rfl
theorem zce(a b:List Str):bi (a++b)=bi a++bi b:=by
 apply i6;rw [df,eX,eX,eX,aJ,List.flatten_append]
noncomputable def Itd(hi:Int)(n:Nat):It:=⟨λ i _=>i < n,λ i H x H'=>H'=H/\x = .int (hi - i),λ i _=>n<=i⟩
theorem zjS(it:Addr)(hi:Int)(n:Nat):fO P w K tg (Itd hi n) [it] it (λ i h=>IsRangeIter h it (hi+(i:Nat) * (-1)) ((n:Int) - (i:Nat)) (-1)) where
 mem:=by simp
 obj:=λ i h st b hb=>by
  have e:b=it:=by simpa using hb
  subst e;exact ⟨_,st,λ v z=>by
   have z':Data.fields _=Data.cell v:=z;cases z'⟩
 keep:=λ i h h' st k=>k it (by simp) _ st
 item:=by
  intro X hP hw hK hc i pins s σ H E I hf st hg;subst hP hw hK;obtain ⟨f0,f1,f2,f3,f4,f5⟩:=hf it (by simp);have W:=Walks.range (prog:=X.prog) (w:=X.w) (I.ok.hd hc) it hi (-1) n;refine W.item i s _ _ hg st λ v h' tk hv st' kk=>?_;obtain ⟨t,rfl⟩:=hv;have I1:Inv X pins σ H { s with heap:=h',toks:=tk }:=I.turned (λ b o hb e=>kk b o (by simpa using hb) e) f0 f1 f3 f4 f5;refine ⟨_,rfl,jn (s:={ s with heap:=h',toks:=tk }) (n := "range_iterator") st' rfl rfl (by decide) ⟨.int (hi - i),H,I1,⟨t,?_⟩,⟨rfl,rfl⟩,st',λ b hb=>(hf b hb).1⟩⟩;have e:hi+(i:Int) * -1=hi - i:=by omega
  rw [e]
 done:=by
  intro X hP hw hK hc i pins s σ H E I hf st hg;subst hP hw hK;obtain ⟨f0,f1,f2,f3,f4,f5⟩:=hf it (by simp);exact wpAny_pyNext_range_end (I.ok.hd hc) st (by have:n<=i:=hg;omega) λ h' eb=>⟨rfl,I.turned (t':=s.toks) (λ b o hb e=>eb b o hb e) f0 f1 f3 f4 f5⟩
 self:=λ _ _ _ _ _ st h=>wpAny_pyIter_rangeiter st h
theorem wX(a b:Int):Builtin.Range.rangeSize a b (-1)=if b < a then a - b else 0:=by
 unfold Builtin.Range.rangeSize;rw [if_neg (by omega)]
 split <;> simp <;> omega
theorem zjc{a b:Int}(ha : -(2 ^ 62)<=a)(ha':a < 2 ^ 62)(hb : -(2 ^ 62)<=b)(hb':b < 2 ^ 62):Builtin.Range.small a b (-1)=true:=by
 unfold Builtin.Range.small;rw [wX];simp only [Builtin.Range.rangeFitsLong,Bool.and_eq_true,Bool.or_eq_true,decide_eq_true_eq,beq_iff_eq,show ¬ ((-1:Int) > 0) by decide,if_false]
 split <;> omega
noncomputable def zcV(ta:TA):TI:=λ σ H R=>ta σ H λ vs H1=>∃ i j:Int,vs=[.int i,.int j,.int (-1)]/\(-(2 ^ 61)<=i/\i < 2 ^ 61/\-(2 ^ 61)<=j/\j < 2 ^ 61)/\R (Itd i (i - j).toNat) H1
theorem zbx{R:It->Hp->Prop}{t u v:Tok}(I:Inv X pins σ H s)(h1 : -(2 ^ 62)<=hi)(h2:hi < 2 ^ 62)(h3 : -(2 ^ 62)<=lo)(h4:lo < 2 ^ 62)(q:R (Itd hi (hi - lo).toNat) H):wpAny (model X.prog X.w) X.A (pyIter (.ref s.heap.objs.size)) (PIE X pins σ tg R) E { s with heap:=s.heap.push { cls:=.type "range", data:=.fields #[.int hi t,.int lo u,.int (-1) v] },toks:=tk }:=by
 refine wpAny_pyIter_range (IsRange.new ..) (zjc h1 h2 h3 h4) ?_;have I1:Inv X pins σ H { s with heap:=s.heap.push { cls:=.type "range", data:=.fields #[.int hi t,.int lo u,.int (-1) v] },toks:=tk }:=I.kept λ b o e=>aY _ e;refine ⟨(s.heap.push { cls:=.type "range", data:=.fields #[.int hi t,.int lo u,.int (-1) v] }).objs.size,[(s.heap.push { cls:=.type "range", data:=.fields #[.int hi t,.int lo u,.int (-1) v] }).objs.size],_,_,H,rfl,
  I1.kept (t':=tk) λ b o e=>aY _ e,zjS _ hi (hi - lo).toNat,?_,λ b hb=>?_,q⟩
 ·have e1:hi+((0:Nat):Int) * (-1)=hi:=by simp
  have e2:(((hi - lo).toNat:Nat):Int) - ((0:Nat):Int)=Builtin.Range.rangeSize hi lo (-1):=by rw [wX];split <;> omega
  show IsRangeIter _ _ (hi+((0:Nat):Int) * (-1)) ((((hi - lo).toNat:Nat):Int) - ((0:Nat):Int)) (-1);rw [e1,e2];exact Heap.get?_push_size _ rfl
 ·have e:b=(s.heap.push { cls:=.type "range", data:=.fields #[.int hi t,.int lo u,.int (-1) v] }).objs.size:=by simpa using hb
  subst e;exact I1.fpOk (Nat.le_refl _) (I1.hok.fresh (Nat.le_refl _))
theorem zhs{a b:Expr}{ta:TA}(hg:Gl X "range")(hm:X.mg "range" = none)(ha:PA X [a,b,c] ta)(hs:starEach [a,b,c] X.env=[(false,eval a X.env),(false,eval b X.env),(false,eval c X.env)]:=by rfl)(hs2:starEach [b,c] X.env=[(false,eval b X.env),(false,eval c X.env)]:=by rfl):PI X tg (.Call (.Name "range" p) [a,b,c] [] pos) (zcV ta):=by
 intro pins s σ H R I h;refine Call_ (fb I hg hm boot_range (PyProof.Rows.callWith_type1 (thn (ha pos pins s σ H _ I h) λ us s1 ⟨vs,H1,I1,r1,q1⟩=>?_) (by rw [hs,hs2]) (by rw [hs2];rfl)));obtain ⟨i,j,e,⟨q1,q2,q3,q4⟩,q⟩:=q1;subst e;cases r1 with
 | cons r rr=>
  cases rr with
  | cons r' rr=>
   cases rr with
   | cons r'' rr=>
    cases rr;obtain ⟨t,rfl⟩:=r;obtain ⟨t',rfl⟩:=r';obtain ⟨t'',rfl⟩:=r'';exact call_range_3 (by decide) (zbx I1 (by omega) (by omega) (by omega) (by omega) q) (Or.inl (PyProof.noPylong_small (by omega)))
theorem zbd{fr:List (Option Nat)}(Pv:Nat->List V->Hp->Prop)(h0:Pv 0 [] H)(hl:∀ i acc H,i<=n->Pv i acc H->acc.length<=i)(hz:n<=sizeLine)(hs:∀ i acc H,i < n->Pv i acc H->g (.int (lo - i)) (stC fr σ) H λ σ2 H2=>Wk (stC fr σ) σ2/\tc σ2 H2 λ b H3=>
   if b=true then te σ2 H3 λ y H4=>∃ m',m' < n - i/\CW n Pv (i+1) m' (acc++[y]) H4 else ∃ m',m' < n - i/\CW n Pv (i+1) m' acc H3)(hd:∀ acc H,Pv n acc H->Qe acc H):
  ∃ W:Nat->Nat->List V->Hp->Prop,(∃ m,W 0 m [] H)/\∀ i m acc H,W i m acc H->
   ((Itd lo n).stop i H/\Qe acc H)\/
   ((Itd lo n).go i H/\acc.length < sizeLine/\∀ x H',(Itd lo n).yld i H x H'->g x (stC fr σ) H' λ σ2 H2=>Wk (stC fr σ) σ2/\tc σ2 H2 λ b H3=>
    if b=true then te σ2 H3 λ y H4=>∃ m',m' < m/\W (i+1) m' (acc++[y]) H4 else ∃ m',m' < m/\W (i+1) m' acc H3):=by
 refine ⟨CW n Pv,⟨n,by simp,Nat.zero_le _,h0⟩,?_⟩;rintro i m acc H ⟨rfl,hi,p⟩;have ql:=hl i acc H hi p;by_cases hlt:i < n
 ·refine .inr ⟨hlt,by omega,λ x H' y=>?_⟩;obtain ⟨e,y⟩:=y;subst e y;exact hs i acc _ hlt p
 ·have e:i=n:=by omega
  subst e;exact .inl ⟨Nat.le_refl _,hd acc H p⟩
noncomputable def zjE(K:W.Frag)(ta:TE):TT:=λ σ H Q=>ta σ H λ x H'=>∃ k,mz K x H' k/\Q k H'
theorem zhG(K:W.Frag){a:Expr}(ha:PE X a ta)(h:X.K=K:=by rfl)(he:∀ whole,isTrue a X.env whole=(do let v ← whole;standAt a.pos;holding [v] (truthy v)):=by intro _;rfl):PT X a (zjE K ta):=by
 subst h;exact zhF ha he
section
open PySem.W
noncomputable def fC(xs:Array Value)(c:Nat):Obj:={ cls:=.type "list", dict:=none,data:=.seq xs c,slots:=#[] }
noncomputable def Kp(wr:List Addr)(S:Addr)(h h':Heap):Prop:=∀ b o,b∉wr->b≠S->h.get? b=some o->h'.get? b=some o
section
variable {S:Addr} {P:Nat->Value->Prop} {St:Nat->Heap->Prop}
theorem zeu(W:Walks prog w A.in1 I fp wr n P St)(cm:CmpOf prog w A.in1 .Gt P bt)(away:S∉fp):∀ (k j:Nat) (s:Shared) (vb:Value) (c:Nat),n=j+1+k->St (j+1) s.heap->P (argBest bt j) vb->s.heap.get? S=some (fC #[vb,vb] c)->
  (∀ v h' tk,P (argBest bt (n - 1)) v->Kp wr S s.heap h'->R (.ok (.ret v)) { s with heap:=h',toks:=tk })->codeAny (model prog w) A (.builtin "max.loop" ⟨[.ref I,.none,.ref S],kw⟩) R s:=by
 have awr:S∉wr:=λ z=>away (W.sub _ z);have nm:(toString "max" ++ toString ".loop" : String) = "max.loop" := by decide
 intro k;induction k with
 | zero=>
  intro j s vb c hn st pb gS goal;refine codeAny_builtin F.entry_max_loop ?_;rw [Around.under_plainId F.plain_max_loop _];show wpAny _ A.in1 (Bind.bind (seqItems? (.ref S)) _) _ _ s;refine af (wpAny_seqItems gS rfl ?_);show wpAny _ A.in1 (Bind.bind (tryCatch (pyNext (.ref I)) _) _) _ _ s;refine af (wpAny_tryCatch (W.done s _ _ (by rw [hn];exact st) λ h' tk kp=>?_));have gS':=kp S _ awr gS;show wpAny _ A.in1 (Bind.bind (updateSeq S (λ _=>#[])) _) _ _ _;refine af (wpAny_updateSeq gS' rfl (af (wpAny_letGo (aG ?_))));exact goal vb _ tk (by rw [hn];exact pb) λ b o nb nS e=>(Heap.get?_update_other _ _ (Ne.symm nS)).trans (kp b o nb e)
 | succ k ih=>
  intro j s vb c hn st pb gS goal;refine codeAny_builtin F.entry_max_loop ?_;rw [Around.under_plainId F.plain_max_loop _];show wpAny _ A.in1 (Bind.bind (seqItems? (.ref S)) _) _ _ s;refine af (wpAny_seqItems gS rfl ?_);show wpAny _ A.in1 (Bind.bind (tryCatch (pyNext (.ref I)) _) _) _ _ s;refine af (wpAny_tryCatch (W.item (j+1) s _ _ (by omega) st λ v h' tk pv st' kp=>?_));have gS':=kp S _ awr gS;show wpAny _ A.in1 (Bind.bind (tryCatch (holding [v,v] (Bind.bind (richCompare .Gt v vb) _)) _) _) _ _ _;refine af (wpAny_tryCatch (wpAny_holding (af (cm (j+1) (argBest bt j) v vb _ _ _ pv pb ?_))));refine af (wpAny_holding (wpAny_truthy_bool (af (wpAny_letGo (aG ?_)))));cases hb:bt (j+1) (argBest bt j) with
  | true=>
   simp only [if_true];refine af (wpAny_updateSeq gS' rfl (af (wpAny_letGo ?_)));rw [nm];have stU:=W.frame _ _ (Heap.update h' S (Obj.mapSeq λ _=>#[v,v])) st' λ b nb o e=>(Heap.get?_update_other h' _ (show S≠b from λ z=>away (z ▸ nb))).trans e;have pU:P (argBest bt (j+1)) v:=by simp only [argBest,hb,if_true];exact pv
   exact aG ⟨plainId_quiet F.plain_max_loop _,ih (j+1) _ v _ (by omega) stU pU (Heap.get?_update_self _ gS' rfl) λ v' h2 tk2 p' kp2=>goal v' h2 tk2 p' λ b o nb nS e=>kp2 b o nb nS ((Heap.get?_update_other _ _ (Ne.symm nS)).trans (kp b o nb e))⟩
  | false=>
   simp only [Bool.false_eq_true,if_false];refine af (wpAny_letGo ?_);rw [nm];have pU:P (argBest bt (j+1)) vb:=by simp only [argBest,hb,Bool.false_eq_true,if_false];exact pb
   exact aG ⟨plainId_quiet F.plain_max_loop _,ih (j+1) _ vb c (by omega) st' pU gS' λ v' h2 tk2 p' kp2=>goal v' h2 tk2 p' λ b o nb nS e=>kp2 b o nb nS (kp b o nb e)⟩
theorem zet(W:Walks prog w A.in1 I fp wr n P St)(cm:CmpOf prog w A.in1 .Gt P bt)(away:S∉fp)(pos:0 < n){c:Nat}(st:St 0 s.heap)(gS:s.heap.get? S=some (fC #[] c))(goal:∀ v h' tk,P (argBest bt (n - 1)) v->Kp wr S s.heap h'->R (.ok (.ret v)) { s with heap:=h',toks:=tk }):codeAny (model prog w) A (.builtin "max.loop" ⟨[.ref I,.none,.ref S],kw⟩) R s:=by
 have awr:S∉wr:=λ z=>away (W.sub _ z);have nm:(toString "max" ++ toString ".loop" : String) = "max.loop" := by decide
 refine codeAny_builtin F.entry_max_loop ?_;rw [Around.under_plainId F.plain_max_loop _];show wpAny _ A.in1 (Bind.bind (seqItems? (.ref S)) _) _ _ s;refine af (wpAny_seqItems gS rfl ?_);show wpAny _ A.in1 (Bind.bind (tryCatch (pyNext (.ref I)) _) _) _ _ s;refine af (wpAny_tryCatch (W.item 0 s _ _ pos st λ v h' tk pv st' kp=>?_));have gS':=kp S _ awr gS;show wpAny _ A.in1 (Bind.bind (updateSeq S (λ _=>#[v,v])) _) _ _ _;refine af (wpAny_updateSeq gS' rfl ?_);rw [nm];have stU:=W.frame _ _ (Heap.update h' S (Obj.mapSeq λ _=>#[v,v])) st' λ b nb o e=>(Heap.get?_update_other h' _ (show S≠b from λ z=>away (z ▸ nb))).trans e;exact aG ⟨plainId_quiet F.plain_max_loop _,zeu W cm away (n - 1) 0 _ v _ (by omega) stU pv (Heap.get?_update_self _ gS' rfl) λ v' h2 tk2 p' kp2=>goal v' h2 tk2 p' λ b o nb nS e=>kp2 b o nb nS ((Heap.get?_update_other _ _ (Ne.symm nS)).trans (kp b o nb e))⟩
theorem zev(W:Walks prog w A.in1 I fp wr 0 P St)(away:S∉fp){c:Nat}{k:Str}{d:Value}(st:St 0 s.heap)(gS:s.heap.get? S=some (fC #[] c))(goal:∀ h' tk,Kp wr S s.heap h'->R (.ok (.ret d)) { s with heap:=h',toks:=tk }):codeAny (model prog w) A (.builtin "max.loop" ⟨[.ref I,.none,.ref S],[(k,d)]⟩) R s:=by
 refine codeAny_builtin F.entry_max_loop ?_;rw [Around.under_plainId F.plain_max_loop _];show wpAny _ A.in1 (Bind.bind (seqItems? (.ref S)) _) _ _ s;refine af (wpAny_seqItems gS rfl ?_);show wpAny _ A.in1 (Bind.bind (tryCatch (pyNext (.ref I)) _) _) _ _ s;refine af (wpAny_tryCatch (W.done s _ _ st λ h' tk kp=>?_));refine af (wpAny_rule ?_);exact aG (goal h' tk λ b o nb _ e=>kp b o nb e)
end
section
variable {l:Addr} {xs:Array (Int × Tok)} {d:Value}
theorem zes(a d:Value):argsOk "max" ⟨[a],[(Str.ofString "default", d)]⟩:=by (unfold argsOk);kernel_rfl
theorem zer(hh:A.handled=none)(hl:s.heap.IsList l (intItems xs))(one:∀ v h' tk,0 < xs.size->(intItems xs)[argBest (λ i j=>decide (numAt xs i > numAt xs j)) (xs.size - 1)]?=some v->(∀ b o,s.heap.get? b=some o->h'.get? b=some o)->Q v { s with heap:=h',toks:=tk })(none_:∀ h' tk,xs.size=0->(∀ b o,s.heap.get? b=some o->h'.get? b=some o)->Q d { s with heap:=h',toks:=tk }):
  wpAny (model prog w) A (call (.builtin "max") [.ref l] [(Str.ofString "default", d)]) Q E s:=by
 have nm:(toString "max" ++ toString ".loop" : String) = "max.loop" := by decide
 have size:(intItems xs).size=xs.size:=by simp [intItems]
 refine kmk_tree F.kind_max F.plain_max F.entry_max (zes _ _) ?_;show wpAny _ A.in1 (Bind.bind (Builtin.Builtins.bindParams "max" ["key", "default"] 0 ⟨[],[(Str.ofString "default", d)]⟩) _) _ _ s;refine af (wpAny_of_eq (show Builtin.Builtins.bindParams "max" ["key", "default"] 0 ⟨[],[(Str.ofString "default", d)]⟩=pure [none,some d] from rfl) (af (aG (af (iter_intList hl λ s₂ e st low ne=>?_)))));subst e;refine af (wpAny_newList ?_ (Nat.zero_le _));rw [nm];have W:=Walks.list (prog:=prog) (w:=w) (A:=A.in1) hh s.heap.objs.size l ne (intItems xs);have away:(s.heap.push { cls:=.type "list_iterator", data:=.fields #[.ref l,.int 0 0] }).objs.size∉[s.heap.objs.size,l]:=λ z=>Nat.lt_irrefl _ (low _ z);have old:∀ {h':Heap},Kp [s.heap.objs.size] (s.heap.push { cls:=.type "list_iterator", data:=.fields #[.ref l,.int 0 0] }).objs.size ((s.heap.push { cls:=.type "list_iterator", data:=.fields #[.ref l,.int 0 0] }).push (fC #[] 0)) h'->
   ∀ b o,s.heap.get? b=some o->h'.get? b=some o:=λ kp b o e=>by
  have lt:=Heap.lt_size e;refine kp b o (by simpa using Nat.ne_of_lt lt) (λ z=>?_) (aY _ (aY _ e));rw [z,Heap.size_push] at lt;exact absurd (Nat.lt_trans (Nat.lt_succ_self _) lt) (Nat.lt_irrefl _)
 have st2:=W.frame 0 _ ((s.heap.push { cls:=.type "list_iterator", data:=.fields #[.ref l,.int 0 0] }).push (fC #[] 0)) st λ b _ o e=>aY _ e;refine aG ⟨plainId_quiet F.plain_max_loop _,?_⟩;by_cases pos:0 < xs.size
 ·exact zet W (CmpOf.ints_gt (numAt xs) (λ _ _=>intItems_at)) away (by rw [size];exact pos) st2 (Heap.get?_push_size _ rfl) λ v h' tk p kp=>one v h' tk pos (by rw [size] at p;exact p) (old kp)
 ·have e0:xs.size=0:=by omega
  rw [size,e0] at W;exact zev W away st2 (Heap.get?_push_size _ rfl) λ h' tk kp=>none_ h' tk e0 (old kp)
end
section
variable {S:Addr} {P:Nat->Value->Prop} {St:Nat->Heap->Prop}
theorem zeC(W:Walks prog w A.in1 I fp wr n P St)(cm:CmpOf prog w A.in1 .Lt P bt)(away:S∉fp):∀ (k j:Nat) (s:Shared) (vb:Value) (c:Nat),n=j+1+k->St (j+1) s.heap->P (argBest bt j) vb->s.heap.get? S=some (fC #[vb,vb] c)->
  (∀ v h' tk,P (argBest bt (n - 1)) v->Kp wr S s.heap h'->R (.ok (.ret v)) { s with heap:=h',toks:=tk })->codeAny (model prog w) A (.builtin "min.loop" ⟨[.ref I,.none,.ref S],kw⟩) R s:=by
 have awr:S∉wr:=λ z=>away (W.sub _ z);have nm:(toString "min" ++ toString ".loop" : String) = "min.loop" := by decide
 intro k;induction k with
 | zero=>
  intro j s vb c hn st pb gS goal;refine codeAny_builtin F.entry_min_loop ?_;rw [Around.under_plainId F.plain_min_loop _];show wpAny _ A.in1 (Bind.bind (seqItems? (.ref S)) _) _ _ s;refine af (wpAny_seqItems gS rfl ?_);show wpAny _ A.in1 (Bind.bind (tryCatch (pyNext (.ref I)) _) _) _ _ s;refine af (wpAny_tryCatch (W.done s _ _ (by rw [hn];exact st) λ h' tk kp=>?_));have gS':=kp S _ awr gS;show wpAny _ A.in1 (Bind.bind (updateSeq S (λ _=>#[])) _) _ _ _;refine af (wpAny_updateSeq gS' rfl (af (wpAny_letGo (aG ?_))));exact goal vb _ tk (by rw [hn];exact pb) λ b o nb nS e=>(Heap.get?_update_other _ _ (Ne.symm nS)).trans (kp b o nb e)
 | succ k ih=>
  intro j s vb c hn st pb gS goal;refine codeAny_builtin F.entry_min_loop ?_;rw [Around.under_plainId F.plain_min_loop _];show wpAny _ A.in1 (Bind.bind (seqItems? (.ref S)) _) _ _ s;refine af (wpAny_seqItems gS rfl ?_);show wpAny _ A.in1 (Bind.bind (tryCatch (pyNext (.ref I)) _) _) _ _ s;refine af (wpAny_tryCatch (W.item (j+1) s _ _ (by omega) st λ v h' tk pv st' kp=>?_));have gS':=kp S _ awr gS;show wpAny _ A.in1 (Bind.bind (tryCatch (holding [v,v] (Bind.bind (richCompare .Lt v vb) _)) _) _) _ _ _;refine af (wpAny_tryCatch (wpAny_holding (af (cm (j+1) (argBest bt j) v vb _ _ _ pv pb ?_))));refine af (wpAny_holding (wpAny_truthy_bool (af (wpAny_letGo (aG ?_)))));cases hb:bt (j+1) (argBest bt j) with
  | true=>
   simp only [if_true];refine af (wpAny_updateSeq gS' rfl (af (wpAny_letGo ?_)));rw [nm];have stU:=W.frame _ _ (Heap.update h' S (Obj.mapSeq λ _=>#[v,v])) st' λ b nb o e=>(Heap.get?_update_other h' _ (show S≠b from λ z=>away (z ▸ nb))).trans e;have pU:P (argBest bt (j+1)) v:=by simp only [argBest,hb,if_true];exact pv
   exact aG ⟨plainId_quiet F.plain_min_loop _,ih (j+1) _ v _ (by omega) stU pU (Heap.get?_update_self _ gS' rfl) λ v' h2 tk2 p' kp2=>goal v' h2 tk2 p' λ b o nb nS e=>kp2 b o nb nS ((Heap.get?_update_other _ _ (Ne.symm nS)).trans (kp b o nb e))⟩
  | false=>
   simp only [Bool.false_eq_true,if_false];refine af (wpAny_letGo ?_);rw [nm];have pU:P (argBest bt (j+1)) vb:=by simp only [argBest,hb,Bool.false_eq_true,if_false];exact pb
   exact aG ⟨plainId_quiet F.plain_min_loop _,ih (j+1) _ vb c (by omega) st' pU gS' λ v' h2 tk2 p' kp2=>goal v' h2 tk2 p' λ b o nb nS e=>kp2 b o nb nS (kp b o nb e)⟩
theorem zeB(W:Walks prog w A.in1 I fp wr n P St)(cm:CmpOf prog w A.in1 .Lt P bt)(away:S∉fp)(pos:0 < n){c:Nat}(st:St 0 s.heap)(gS:s.heap.get? S=some (fC #[] c))(goal:∀ v h' tk,P (argBest bt (n - 1)) v->Kp wr S s.heap h'->R (.ok (.ret v)) { s with heap:=h',toks:=tk }):codeAny (model prog w) A (.builtin "min.loop" ⟨[.ref I,.none,.ref S],kw⟩) R s:=by
 have awr:S∉wr:=λ z=>away (W.sub _ z);have nm:(toString "min" ++ toString ".loop" : String) = "min.loop" := by decide
 refine codeAny_builtin F.entry_min_loop ?_;rw [Around.under_plainId F.plain_min_loop _];show wpAny _ A.in1 (Bind.bind (seqItems? (.ref S)) _) _ _ s;refine af (wpAny_seqItems gS rfl ?_);show wpAny _ A.in1 (Bind.bind (tryCatch (pyNext (.ref I)) _) _) _ _ s;refine af (wpAny_tryCatch (W.item 0 s _ _ pos st λ v h' tk pv st' kp=>?_));have gS':=kp S _ awr gS;show wpAny _ A.in1 (Bind.bind (updateSeq S (λ _=>#[v,v])) _) _ _ _;refine af (wpAny_updateSeq gS' rfl ?_);rw [nm];have stU:=W.frame _ _ (Heap.update h' S (Obj.mapSeq λ _=>#[v,v])) st' λ b nb o e=>(Heap.get?_update_other h' _ (show S≠b from λ z=>away (z ▸ nb))).trans e;exact aG ⟨plainId_quiet F.plain_min_loop _,zeC W cm away (n - 1) 0 _ v _ (by omega) stU pv (Heap.get?_update_self _ gS' rfl) λ v' h2 tk2 p' kp2=>goal v' h2 tk2 p' λ b o nb nS e=>kp2 b o nb nS ((Heap.get?_update_other _ _ (Ne.symm nS)).trans (kp b o nb e))⟩
theorem zeD(W:Walks prog w A.in1 I fp wr 0 P St)(away:S∉fp){c:Nat}{k:Str}{d:Value}(st:St 0 s.heap)(gS:s.heap.get? S=some (fC #[] c))(goal:∀ h' tk,Kp wr S s.heap h'->R (.ok (.ret d)) { s with heap:=h',toks:=tk }):codeAny (model prog w) A (.builtin "min.loop" ⟨[.ref I,.none,.ref S],[(k,d)]⟩) R s:=by
 refine codeAny_builtin F.entry_min_loop ?_;rw [Around.under_plainId F.plain_min_loop _];show wpAny _ A.in1 (Bind.bind (seqItems? (.ref S)) _) _ _ s;refine af (wpAny_seqItems gS rfl ?_);show wpAny _ A.in1 (Bind.bind (tryCatch (pyNext (.ref I)) _) _) _ _ s;refine af (wpAny_tryCatch (W.done s _ _ st λ h' tk kp=>?_));refine af (wpAny_rule ?_);exact aG (goal h' tk λ b o nb _ e=>kp b o nb e)
end
section
variable {l:Addr} {xs:Array (Int × Tok)} {d:Value}
theorem zeA(a d:Value):argsOk "min" ⟨[a],[(Str.ofString "default", d)]⟩:=by (unfold argsOk);kernel_rfl
theorem zez(hh:A.handled=none)(hl:s.heap.IsList l (intItems xs))(one:∀ v h' tk,0 < xs.size->(intItems xs)[argBest (λ i j=>decide (numAt xs i < numAt xs j)) (xs.size - 1)]?=some v->(∀ b o,s.heap.get? b=some o->h'.get? b=some o)->Q v { s with heap:=h',toks:=tk })(none_:∀ h' tk,xs.size=0->(∀ b o,s.heap.get? b=some o->h'.get? b=some o)->Q d { s with heap:=h',toks:=tk }):
  wpAny (model prog w) A (call (.builtin "min") [.ref l] [(Str.ofString "default", d)]) Q E s:=by
 have nm:(toString "min" ++ toString ".loop" : String) = "min.loop" := by decide
 have size:(intItems xs).size=xs.size:=by simp [intItems]
 refine kmk_tree F.kind_min F.plain_min F.entry_min (zeA _ _) ?_;show wpAny _ A.in1 (Bind.bind (Builtin.Builtins.bindParams "min" ["key", "default"] 0 ⟨[],[(Str.ofString "default", d)]⟩) _) _ _ s;refine af (wpAny_of_eq (show Builtin.Builtins.bindParams "min" ["key", "default"] 0 ⟨[],[(Str.ofString "default", d)]⟩=pure [none,some d] from rfl) (af (aG (af (iter_intList hl λ s₂ e st low ne=>?_)))));subst e;refine af (wpAny_newList ?_ (Nat.zero_le _));rw [nm];have W:=Walks.list (prog:=prog) (w:=w) (A:=A.in1) hh s.heap.objs.size l ne (intItems xs);have away:(s.heap.push { cls:=.type "list_iterator", data:=.fields #[.ref l,.int 0 0] }).objs.size∉[s.heap.objs.size,l]:=λ z=>Nat.lt_irrefl _ (low _ z);have old:∀ {h':Heap},Kp [s.heap.objs.size] (s.heap.push { cls:=.type "list_iterator", data:=.fields #[.ref l,.int 0 0] }).objs.size ((s.heap.push { cls:=.type "list_iterator", data:=.fields #[.ref l,.int 0 0] }).push (fC #[] 0)) h'->
   ∀ b o,s.heap.get? b=some o->h'.get? b=some o:=λ kp b o e=>by
  have lt:=Heap.lt_size e;refine kp b o (by simpa using Nat.ne_of_lt lt) (λ z=>?_) (aY _ (aY _ e));rw [z,Heap.size_push] at lt;exact absurd (Nat.lt_trans (Nat.lt_succ_self _) lt) (Nat.lt_irrefl _)
 have st2:=W.frame 0 _ ((s.heap.push { cls:=.type "list_iterator", data:=.fields #[.ref l,.int 0 0] }).push (fC #[] 0)) st λ b _ o e=>aY _ e;refine aG ⟨plainId_quiet F.plain_min_loop _,?_⟩;by_cases pos:0 < xs.size
 ·exact zeB W (CmpOf.ints_lt (numAt xs) (λ _ _=>intItems_at)) away (by rw [size];exact pos) st2 (Heap.get?_push_size _ rfl) λ v h' tk p kp=>one v h' tk pos (by rw [size] at p;exact p) (old kp)
 ·have e0:xs.size=0:=by omega
  rw [size,e0] at W;exact zeD W away st2 (Heap.get?_push_size _ rfl) λ h' tk kp=>none_ h' tk e0 (old kp)
end
section
variable (K:W.Frag)
theorem va(r:Vals (ns.map V.int) its):∃ ws:Array (Int × Tok),its.toArray=intItems ws/\ns=ws.toList.map (·.1):=by
 have hi:=kA r;obtain ⟨ws,e⟩:=hi.allInts.items;refine ⟨ws,e,?_⟩;have q1:=hi.numsOf;have q2:=nums_intItems ws;rw [← e] at q2;rw [← q1];exact q2
noncomputable def wU:List V->V->Hp->VK->Prop:=λ xs d H Q=>∃ (p:Addr) (ns:List Int),xs=[.ref p]/\SqL K H p (ns.map V.int)/\(ns=[]->Q d H)/\∀ M:Int,M∈ns->(∀ a∈ns,a<=M)->Q (.int M) H
noncomputable def wV:List V->V->Hp->VK->Prop:=λ xs d H Q=>∃ (p:Addr) (ns:List Int),xs=[.ref p]/\SqL K H p (ns.map V.int)/\(ns=[]->Q d H)/\∀ M:Int,M∈ns->(∀ a∈ns,M<=a)->Q (.int M) H
noncomputable def mj(X:Cx)(id:String)(k:Str)(r:List V->V->Hp->VK->Prop):Prop:=
 ∀ (pins:List (Addr × Obj)) (s:Shared) (σ:St) (H:Hp) (xs:List V) (us:List Value) (d:V) (dv:Value) (Q:VK),Inv X pins σ H s->Vals xs us->RelV d dv->r xs d H Q->
  wpAny (model X.prog X.w) X.A (call (.builtin id) us [(k,dv)]) (EP X pins σ Q) X.xe s
theorem zaZ(hc:X.calm=true)(h:X.K=K:=by rfl):mj X "max" "default" (wU K):=by
 subst h;intro pins s σ H xs us d dv Q I rv rd hh;obtain ⟨p,ns,rfl,hq,q0,q⟩:=hh;obtain ⟨u,rfl,ru⟩:=d7 rv;cases ru;obtain ⟨its,r,pl,hz⟩:=I.list hq;obtain ⟨ws,e,en⟩:=va r;refine zer (I.ok.hd hc) (e ▸ pl.isList) (λ v h' tk pos hv hk=>?_) (λ h' tk e0 hk=>⟨d,H,I.kept (t':=tk) hk,rd,q0 ?_⟩)
 ·obtain ⟨t,rfl⟩:=intItems_at hv;obtain ⟨h1,h2⟩:=argBest_gt (numAt ws) (ws.size - 1);refine ⟨.int _,H,I.kept (t':=tk) hk,⟨t,rfl⟩,q _ ?_ λ a ha=>?_⟩
  ·rw [en,numAt_eq];exact getD_mem (by rw [aj,Array.length_toList];omega)
  ·rw [en] at ha;obtain ⟨j,hj,rfl⟩:=mem_getD ha;rw [aj,Array.length_toList] at hj;rw [← numAt_eq];exact h2 j (by omega)
 ·rw [en,List.eq_nil_of_length_eq_zero (show ws.toList.length=0 by rw [Array.length_toList];exact e0)];rfl
theorem za2(hc:X.calm=true)(h:X.K=K:=by rfl):mj X "min" "default" (wV K):=by
 subst h;intro pins s σ H xs us d dv Q I rv rd hh;obtain ⟨p,ns,rfl,hq,q0,q⟩:=hh;obtain ⟨u,rfl,ru⟩:=d7 rv;cases ru;obtain ⟨its,r,pl,hz⟩:=I.list hq;obtain ⟨ws,e,en⟩:=va r;refine zez (I.ok.hd hc) (e ▸ pl.isList) (λ v h' tk pos hv hk=>?_) (λ h' tk e0 hk=>⟨d,H,I.kept (t':=tk) hk,rd,q0 ?_⟩)
 ·obtain ⟨t,rfl⟩:=intItems_at hv;obtain ⟨h1,h2⟩:=argBest_lt (numAt ws) (ws.size - 1);refine ⟨.int _,H,I.kept (t':=tk) hk,⟨t,rfl⟩,q _ ?_ λ a ha=>?_⟩
  ·rw [en,numAt_eq];exact getD_mem (by rw [aj,Array.length_toList];omega)
  ·rw [en] at ha;obtain ⟨j,hj,rfl⟩:=mem_getD ha;rw [aj,Array.length_toList] at hj;rw [← numAt_eq];exact h2 j (by omega)
 ·rw [en,List.eq_nil_of_length_eq_zero (show ws.toList.length=0 by rw [Array.length_toList];exact e0)];rfl
variable {id:String} {k:Str} {ed:Expr} {t:TA} {r:List V->V->Hp->VK->Prop}
noncomputable def tCD(r:List V->V->Hp->VK->Prop)(t:TA)(td:TE):TE:=λ σ H Q=>t σ H λ vs H1=>td σ H1 λ d H2=>r vs d H2 Q
theorem wy(hc:mj X id k r)(hg:Gl X x)(hm:X.mg x=none)(hv:bootBuiltins x=some (.builtin id))(ha:PA X (e::es) t)(hd:PE X ed td)(hn:x ≠ "__name__" := by decide)(hdb:(x == ("__debug__" : Str))=false:=by decide)(he:backTo pos (starEach (e::es) X.env)=(false,eval e X.env)::backTo pos (starEach es X.env):=by rfl)(hpl:(backTo pos (starEach (e::es) X.env)).any (·.1)=false:=by rfl):PE X (.Call (.Name x p) (e::es) [⟨some k,ed,kpos⟩] pos) (tCD r t td):=by
 intro pins s σ H Q I h;refine wpAny_Call_Name_kw (fb I hg hm hv ?_ hn hdb);refine PyProof.Rows.callWith_kw (thn (ha pos pins s σ H _ I h) λ us s1 ⟨vs,H1,I1,r1,q1⟩=>?_) he hpl rfl rfl;refine kws_cons (thn (hd pins s1 σ H1 _ I1 q1) λ dv s2 ⟨d,H2,I2,r2,q2⟩=>kws_nil ?_);exact hc pins s2 σ H2 vs us d dv Q I2 r1 r2 q2
end
end
section
open PySem.W
noncomputable def zh1:V->List V->Hp->VK->Prop:=λ x vs H Q=>∃ (a:Addr) (kvs:List (Key × V)) (k:Key) (v:V),x = .ref a/\vs=[kV k,v]/\H a=some (.dK kvs)/\(∀ z,ba kvs k=some z->Q z H)/\
 (ba kvs k=none->kvs.length < sizeLine/\Q v (upd H a (.dK (cC kvs k v))))
theorem vM:MtR X "dict.setdefault" zh1:=by
 intro pins s σ H x vs xv us Q I rx rv hh;obtain ⟨a,kvs,k,v,rfl,rfl,e,q1,q2⟩:=hh;cases (show xv=Value.ref a from rx);obtain ⟨ku,vu,rfl,rk,rw'⟩:=rv.two;obtain ⟨z,hd,ws,rel,dd⟩:=gR I.hok e;have hz:ws.length<=sizeLine:=by rw [← rel.length];exact z
 have val:=rel.val k;refine call_meetsIn F.slot_dict_setdefault dd.typeIs F.entry_dict_setdefault (F.args_dict_setdefault_3 _ _ _) (kt_meets_setdefault (bY X.prog X.w) a (fB rk) hd vu) ⟨ws,dd,hz,λ u hu=>?_,λ hu h' dd' hs=>?_⟩
 ·rw [hu] at val;cases ez:ba kvs k with
  | none=>rw [ez] at val;exact val.elim
  | some y=>
   rw [ez] at val;exact ⟨y,H,I.tok _,val,q1 y ez⟩
 ·rw [hu] at val;cases ez:ba kvs k with
  | some y=>rw [ez] at val;exact val.elim
  | none=>
   obtain ⟨l,q⟩:=q2 ez;have hl:(cC kvs k v).length<=sizeLine:=by have:=nH kvs k v;omega
   have he:∃ q,h'.get? a=some q:=let ⟨q,_,_,hq,_⟩:=dd';⟨q,hq⟩;exact ⟨v,_,ji I (by rw [e];exact True.intro) hs he (kh hl hd (rel.put k rw') dd'),rw',q⟩
theorem rY:∀ {xs:List V} {us:List Value},xs.length=us.length->(∀ (j:Nat) (x:V) (u:Value),xs[j]?=some x->us[j]?=some u->RelV x u)->Vals xs us
 | [],[],_,_=>.nil
 | [],_::_,h,_=>nomatch h
 | _::_,[],h,_=>nomatch h
 | x::xs,u::us,h,r=>.cons (r 0 x u rfl rfl) (rY (Nat.succ.inj h) λ j y z h1 h2=>r (j+1) y z h1 h2)
theorem w5{k:Key}(h:(bY P w).is k v=true):RelV (kV k) v:=by
 rcases eY h with ⟨rfl,rfl⟩ | ⟨i,t,rfl,rfl⟩ | ⟨x,t,rfl,rfl⟩
 ·rfl
 ·exact ⟨t,rfl⟩
 ·exact ⟨t,rfl⟩
theorem vn{kvs:List (κ × V)}{ws:List (κ × Value)}(r:KV kvs ws)(j:Nat):(kvs[j]?).map (·.1)=(ws[j]?).map (·.1):=by
 unfold KV at r;induction r generalizing j with
 | nil=>rfl
 | cons h t ih=>
  cases j with
  | zero=>exact congrArg some h.1
  | succ j=>exact ih j
noncomputable def zhS:List V->Hp->VK->Prop:=λ xs H Q=>∃ (a:Addr) (kvs:List (Key × V)),xs=[.ref a]/\H a=some (.dK kvs)/\∀ l,H l=none->Q (.ref l) (upd H l (.lst (kvs.map λ kv=>kV kv.1)))
theorem tY(hc:X.calm=true):CallR X (.type "list") zhS:=by
 intro pins s σ H xs us Q I rv hh;obtain ⟨a,kvs,rfl,e,q⟩:=hh;obtain ⟨u,rfl,ru⟩:=d7 rv;cases ru;obtain ⟨z,hd,ws,rel,dd⟩:=gR I.hok e;have hl:kvs.length=ws.length:=rel.length;obtain ⟨ep,hat⟩:=dd.dictAt;refine kdl_call (kdl_dict (knd:=bY X.prog X.w) (kvs:=ws) (ep:=ep) hd) (I.ok.hd hc) hat (by omega) λ h' tk acc c kp g it=>?_;have r:Vals (kvs.map λ kv=>kV kv.1) acc.toList:=by
  refine rY (by rw [aj,hl];exact it.1.symm.trans Array.length_toList.symm) λ j x u h1 h2=>?_;obtain ⟨k,y,e1,e2⟩:=it.2 j u (by rw [← Array.getElem?_toList];exact h2);have hj:j < kvs.length:=by rw [hl];exact (al_gs.mp e1).1
  rw [aH,aA hj] at h1;cases h1;have ek:kvs[j].1=k:=by
   have:=vn rel j;rw [e1,aA hj] at this;exact Option.some.inj this
  show RelV (kV kvs[j].1) u;rw [ek];exact w5 e2
 exact ⟨.ref s.heap.objs.size,_,I.laid (t':=tk) kp (Nat.le_refl _) (show ObjOk X.prog X.w _ h' _ (.lst _) from ⟨by rw [aj];exact z,acc.toList,c,r,by rw [Array.toArray_toList];exact g⟩),rfl,q _ (I.hok.fresh (Nat.le_refl _))⟩
end
noncomputable def CalT(P:Program)(w:World)(K:W.Frag)(mg:Str->Option Value)(base:Heap)(CX:CXT)(k:Nat)(x:Str)(ps:List Str)(keys:List Str)(sp:Str->Sp):Prop:=
 ∃ (a:Addr) (es:Array DictEntry) (n:Nat),mg x=some (.ref a)/\K.lookup a=some ⟨.type "dict", none,.dict es n,#[]⟩/\W.KeysLit w.params es.toList/\
  ∀ y∈keys,∃ (f:Addr) (fd:FuncData),W.nsIn K a y=some (some (.ref f))/\FnOk P w K mg base CX k f fd ps (sp y)/\W.keepIn K (.ref f)=true/\Binds K fd ps []
noncomputable def zjD(keys:List Str)(sp:Str->Sp)(E:XK)(ti:TE)(t:TA):TE:=λ σ H Q=>ti σ H λ y H1=>∃ x,y = .str x/\x∈keys/\t σ H1 λ vs H2=>sp x (vs++[]) H2 Q E
theorem CalT.pe{k:Nat}{keys:List Str}{sp:Str->Sp}{E:XK}{sp':Pos}{i:Expr}{t:TA}(C:CalT X.prog X.w X.K X.mg X.base CX k x ps keys sp)(hr:Room j X.A)(hx:c9 CX X E)(hi:PE X i ti)(ha:PA X (e::es) t)(hj:k<=j:=by decide)(hg:Gl X x:=by rfl)(hs:mw i:=by (intro _ _;rfl))(hdb:(x == ("__debug__" : Str))=false:=by decide)(hcall:eval (.Call (.Subscript (.Name x p) i sp') (e::es) [] pos) X.env=(do callWith pos (← eval (.Subscript (.Name x p) i sp') X.env) [] (backTo pos (starEach (e::es) X.env)) (backToKw pos (keywordEach [] X.env))):=by rfl)(he:starEach (e::es) X.env=(false,eval e X.env)::starEach es X.env:=by rfl)(hpl:(backTo pos (starEach es X.env)).any (·.1)=false:=by rfl):
  PE X (.Call (.Subscript (.Name x p) i sp') (e::es) [] pos) (zjD keys sp E ti t):=by
 obtain ⟨a,ds,n,hm,hl,hk,hf⟩:=C;intro pins s σ H Q I h;refine Call_ (yi F.slot_dict_getitem.lookup hs (gZ I hg hm (thn (hi pins s σ H _ I h) λ iv s1 ⟨y,H1,I1,ry,z,ey,hz,q⟩=>?_) hdb)) hcall;subst ey;obtain ⟨tk,rfl⟩:=ry;obtain ⟨f,fd,hn,G,hkp,hb⟩:=hf z hz;have hmap:=W.mapOf_K (prog:=X.prog) (w:=X.w) I1.kIn hl hk;refine ⟨hmap.typeIs,wpAny_getItem_of (strKind_is X.prog X.w z tk) hmap (W.find_K hl hn) ?_⟩;have I2:=I1.tok (s1.toks+1);refine W.callWith_K (first:=[]) (h₀:=X.base) I.ok.mod.kin hkp (thn (ha pos pins _ σ H1 _ I2 q) λ us s2 ⟨vs,H2,I3,r,q2⟩=>⟨I3.kIn,?_⟩) he hpl;exact lg (ds:=[]) (dvs:=[]) G (hr.mono hj) hb .nil hx I3 r q2
section
open PySem.NumText
noncomputable def bw(l:List Nat):Prop:=∀ c∈l,c=48\/c=49
noncomputable def eU(l:List Nat):Nat:=l.foldl (λ acc c=>acc * 2+(c - 48)) 0
theorem zam{c:Nat}(h:c=48\/c=49)(ds:Array Nat)(b:Bool):step 2 (ds,b) c=some (ds.push (c - 48),true):=by
 rcases h with rfl | rfl <;> rfl
theorem sZ:∀ (l:List Nat) (ds:Array Nat) (b:Bool),bw l->l.foldlM (step 2) (ds,b)=some ((l.map (· - 48)).foldl Array.push ds,b || !l.isEmpty)
 | [],ds,b,_=>by simp
 | c::r,ds,b,h=>by
  rw [List.foldlM_cons,zam (h c bB)];show r.foldlM (step 2) (ds.push (c - 48),true)=_;rw [sZ r _ true λ d hd=>h d (bp _ hd)];simp
theorem wP:∀ (l:List Nat) (ds:Array Nat),(l.foldl Array.push ds)=ds++l.toArray
 | [],ds=>by simp
 | c::r,ds=>by
  rw [List.foldl_cons,wP r];simp
theorem zai(h:bw l)(hne:l≠[]):digits? 2 l=some (l.map (· - 48)).toArray:=by
 unfold digits?;rw [sZ l _ _ h,wP];cases l with
 | nil=>exact absurd rfl hne
 | cons c r=>simp
theorem tf(h:bw l)(p:Nat->Bool)(h0:p 48=false)(h1:p 49=false):l.dropWhile p=l:=by
 cases l with
 | nil=>rfl
 | cons c r=>
  have:p c=false:=by rcases h c bB with e | e <;> rw [e] <;> assumption
  rw [List.dropWhile_cons,this];rfl
theorem zak(h:bw l):bw l.reverse:=λ c hc=>h c (List.mem_reverse.mp hc)
theorem zal(h:bw l):sign l=(false,l):=by
 cases l with
 | nil=>rfl
 | cons c r=>rcases h c bB with e | e <;> rw [e] <;> rfl
theorem zah(h:bw l):based 2 l=(2,false,l):=by
 match l,h with
 | [],_=>rfl
 | [c],h=>rcases h c bB with e | e <;> rw [e] <;> rfl
 | c::d::r,h=>
  rcases h c bB with e | e <;> rcases h d (bp _ bB) with e2 | e2 <;> rw [e,e2] <;> rfl
theorem zbX(l:List Nat)(a:Nat):(l.map (· - 48)).foldl (λ acc d=>acc * 2+d) a=l.foldl (λ acc c=>acc * 2+(c - 48)) a:=by
 rw [List.foldl_map]
theorem zaj(h:bw l)(hne:l≠[]):(int_private% "readNumeral") 0 2 l=(int_private% "Numeral.value") (eU l:Int):=by
 rw [readNumeral_eq,tf h blank rfl rfl,zal h];show judge 0 false (based 2 l).1 (based 2 l).2.1 (digits? (based 2 l).1 (((based 2 l).2.2.reverse.dropWhile blank).reverse))=_;rw [zah h];show judge 0 false 2 false (digits? 2 ((l.reverse.dropWhile blank).reverse))=_;rw [tf (zak h) blank rfl rfl,List.reverse_reverse,zai h hne];show (int_private% "Numeral.value") (((l.map (· - 48)).toArray.foldl (λ acc d=>acc * 2+d) 0:Nat):Int)=_;rw [List.foldl_toArray,zbX];rfl
theorem tj:∀ {l:List Nat},bw l->l.takeWhile (· != 0)=l
 | [],_=>rfl
 | c::r,h=>by
  have:(c != 0)=true:=by rcases h c bB with e | e <;> rw [e] <;> rfl
  rw [List.takeWhile_cons,this,if_pos rfl,tj λ d hd=>h d (bp _ hd)]
theorem zj0(a b:Value):checkTypeCall "int" ⟨[a,b],[]⟩=pure ():=by kernel_rfl
theorem zfl(a b:Value):checkBuiltinCall "int.__new__" ⟨[.type "int", a,b],[]⟩=pure ():=by kernel_rfl
structure Shut (p:Prop):Prop where
 out:p
theorem zkh(hb:bw l)(hne:l≠[])(hl:l.length<=640)(h:Q (.int (eU l) s.toks) { s with toks:=s.toks+1 }):
  wpAny M A ((int_private% "intFromText") v l 2) Q E s:=by
 have ht:=tj hb;have hr:=zaj hb hne;have hs:(l.takeWhile (· != 0)).length<=640:=by rw [ht];exact hl
 have ha:((l.takeWhile (· != 0)).length == l.length)=true:=by rw [ht];exact beq_self_eq_true _
 rw [← ht] at hr;have hr:(int_private% "readNumeral") 0 2 (l.takeWhile (· != 0))=(int_private% "Numeral.value") (eU l:Int):=by rw [hr,ht]
 obtain ⟨hp,g,d,tk,os⟩:=s
 repeat (any_goals (first | assumption | (with_reducible refine wpAny_ite_true (aN hs) ?_) | (with_reducible refine wpAny_ite_true (aN ha) ?_) | wp_step))
 all_goals (try rw [hr])
 all_goals (try dsimp only)
 repeat (any_goals (first | assumption | (with_reducible refine wpAny_ite_true (aN hs) ?_) | (with_reducible refine wpAny_ite_true (aN ha) ?_) | wp_step))
theorem wp_text2'{z:List Nat}(e:z=l)(hb:bw l)(hne:l≠[])(hl:l.length<=640)(h:Q (.int (eU l) s.toks) { s with toks:=s.toks+1 }):
  wpAny M A ((int_private% "intFromText") v z (Int.toNat 2)) Q E s:=by
 subst e;exact zkh hb hne hl h
theorem zcd{x:PySem.Str}{u t:Tok}(hb:bw x.cps.toList)(hne:x.cps.toList≠[])(hl:x.length<=640):Gives (Builtin.«int.__new__» ⟨[.type "int", .str x u,.int 2 t],[]⟩) (.int (eU x.cps.toList)):=
 .of_wp λ M A E s Q h=>by
  obtain ⟨hp,g,d,tk,os⟩:=s;have f1:=F.conv_sub_int;have f2:=F.madeHere_int;have f6:typeOf (.str x u)=pure (.type "str"):=rfl;have hx:x.cps.all (· < 128)=true:=by
   rw [Array.all_eq_true_iff_forall_mem];intro c hc;rcases hb c (Array.mem_toList_iff.mpr hc) with e | e <;> rw [e] <;> rfl
  have hl':x.cps.toList.length<=640:=by rw [Array.length_toList];exact hl
  have hk:=Shut.mk (And.intro hb (And.intro hne hl'));clear hb hne hl hl'
  repeat (any_goals (first | assumption | ((with_reducible show wpAny _ _ ((int_private% "intFromText") _ _ _) _ _ _);refine wp_text2' (if_pos hx) hk.out.1 hk.out.2.1 hk.out.2.2 ?_) | wp_step))
  all_goals first | exact ⟨_,rfl,h⟩ | skip
noncomputable def zhO:List V->Hp->VK->Prop:=λ xs H Q=>∃ z:Str,xs=[.str z,.int 2]/\bw z.cps.toList/\z.cps.toList≠[]/\z.length<=640/\Q (.int (eU z.cps.toList)) H
theorem zaS:CallR X (.type "int") zhO:=by
 intro pins s σ H xs us Q I r h;obtain ⟨z,rfl,hb,hne,hl,q⟩:=h;obtain ⟨a,b,rfl,⟨t,rfl⟩,⟨k,rfl⟩⟩:=r.two;refine callType_new F.called_int F.newNe_int (zj0 _ _) (zfl _ _) (λ obj=>F.args_object_init_3 obj _ _) F.entry_int_new (zcd hb hne hl).meets ?_;exact (show (Made.int (eU z.cps.toList)).post _ s from ⟨rfl,⟨.int _,H,I.tok _,⟨_,rfl⟩,q⟩⟩)
theorem ue(c:Nat):∀ l:List Nat,PyProof.Rows.cnt c l=((l.count c:Nat):Int)
 | []=>rfl
 | n::r=>by
  rw [PyProof.Rows.cnt_cons,ue c r,List.count_cons];by_cases e:n=c
  ·subst e;simp;omega
  ·have:(n == c)=false:=by simpa using e
   rw [if_neg e,this];simp
theorem xj(x:PySem.Str)(c:Nat):Txt.count x ⟨#[c]⟩=((x.cps.toList.count c:Nat):Int):=(PyProof.Rows.count_is x c).trans (ue c x.cps.toList)
theorem vL:MtR X "str.count" (λ x vs H Q=>∃ z y:Str,x = .str z/\vs=[.str y]/\Q (.int (Txt.count z y)) H):=by
 intro pins s σ H x vs v us Q I rx rv h;obtain ⟨z,y,rfl,rfl,q⟩:=h;obtain ⟨t,rfl⟩:=rx;obtain ⟨u,rfl,⟨k,rfl⟩⟩:=rv.one;exact SC.count ⟨.int _,H,I.tok _,⟨_,rfl⟩,q⟩
noncomputable def zh3:V->Option Int->Option Int->Hp->VK->Prop:=λ x lo hi H Q=>∃ (z:Str) (a b:Nat),x = .str z/\lo=some (a:Int)/\hi=some (b:Int)/\a<=b/\b<=z.length/\z.length<=sizeLine/\Q (.str ⟨((z.cps.toList.drop a).take (b - a)).toArray⟩) H
theorem zjb(z:Str){a b:Nat}(hab:a<=b)(hb:b<=z.length):Txt.slice z (some (a:Int)) (some (b:Int))=⟨((z.cps.toList.drop a).take (b - a)).toArray⟩:=by
 unfold Txt.slice;rw [StrLaws.sliced_plain z hab hb,StrLaws.strSliceIndices_plain hab hb]
 split
 ·rename_i h
  rw [aj,List.length_range] at h;have h:b - a=z.length:=by simpa using h
  have ea:a=0:=by omega
  subst ea;rw [h];apply i6;show _=List.take z.length (List.drop 0 z.cps.toList);rw [List.drop_zero,List.take_of_length_le (by rw [Array.length_toList];exact Nat.le_refl _)]
 ·rfl
theorem xm:SlR X zh3:=by
 intro pins s σ H x v vl vu lo hi sl Q I rx hs pl pu h;obtain ⟨z,a,b,rfl,rfl,rfl,hab,hb,hz,q⟩:=h;obtain ⟨t,rfl⟩:=rx;obtain ⟨ta,rfl⟩:∃ ta,vl = .int (a:Int) ta:=by cases pl;exact ⟨_,rfl⟩
 obtain ⟨tb,rfl⟩:∃ tb,vu = .int (b:Int) tb:=by cases pu;exact ⟨_,rfl⟩
 refine ⟨"str", _,F.slot_str_getitem.lookup,typeIs_str _ _ _,?_⟩;refine wpAny_getItem_str_slice (l:=some ((a:Int),ta)) (u:=some ((b:Int),tb)) (st:=none) hs rfl ?_;refine post_val_or_str ⟨Nat.le_trans (Txt.slice_le z (some (a:Int)) (some (b:Int))) hz,λ t' k=>⟨.str _,H,I.tok k,⟨t',?_⟩,q⟩⟩;show Value.str (Txt.slice z (some (a:Int)) (some (b:Int))) t'=_;rw [zjb z hab hb]
end
noncomputable def ci(xs:List α)(k:Nat)(y:α):List α:=xs.take k++y::xs.drop k
noncomputable def zhN:V->List V->Hp->VK->Prop:=λ x vs H Q=>∃ (l:Addr) (xs:List V) (i:Int) (y:V),x = .ref l/\vs=[.int i,y]/\H l=some (.lst xs)/\0<=i/\i<=xs.length/\xs.length < 1000000/\Q .non (upd H l (.lst (ci xs i.toNat y)))
theorem zka{xs:List V}(r:Vals xs its)(ry:RelV y u)(k:Nat):Vals (ci xs k y) (ci its k u):=(r.take k).append (.cons ry (r.drop k))
theorem zeI:MtM X "list.insert" zhN:=by
 intro pins s σ H x vs v us Q I rx rv h;obtain ⟨l,xs,i,y,rfl,rfl,hH,h0,hk,hz,q⟩:=h;cases rx;obtain ⟨iv,u,rfl,ri,ru⟩:=rv.two;obtain ⟨t,rfl⟩:=ri;obtain ⟨z,its,n,r,hl,e⟩:=I.lstM hH;have fits:¬ (!Builtin.List.listFitsIndex i)=true:=by
  rw [fitsIndex_both (by omega) (by omega)];decide
 have hz2:its.toArray.size<=sizeLine:=by rw [a9,sizeLine_eq];omega
 have M:=AutoSeq1.list_insert_list_int_val_1 l its.toArray n i t u fits hz2;refine call_meets F.slot_list_insert ⟨_,e,rfl⟩ F.entry_list_insert (F.args_list_insert_3 _ _ _) M ⟨e,?_⟩;refine ⟨.non,_,I.lset (its':=ci its i.toNat u) hH e ?_ (zka r ru i.toNat) ?_,rfl,q⟩
 ·show ((its.toArray.extract 0 (if i < 0 then (i+(its.toArray.size:Int)).toNat else min i.toNat its.toArray.size)).push u++its.toArray.extract (if i < 0 then (i+(its.toArray.size:Int)).toNat else min i.toNat its.toArray.size))=(ci its i.toNat u).toArray;have ek:(if i < 0 then (i+(its.toArray.size:Int)).toNat else min i.toNat its.toArray.size)=i.toNat:=by
   rw [if_neg (by omega),a9];omega
  rw [ek];apply Array.toList_inj.mp;simp [ci];rw [List.take_of_length_le (by simp)]
 ·show (ci xs i.toNat y).length<=sizeLine;unfold ci;rw [aO,bc,List.length_cons,List.length_drop,sizeLine_eq];omega
noncomputable def Fly(B:Heap)(l:List Env)(e:Addr)(cls a0:Value)(h:Heap):Prop:=∃ fl,B.StaysIn h/\B.get? e=none/\h.FunFrames B l/\h.TracedAtW B e cls a0 fl
section
variable {B:Heap} {l:List Env} {e L:Addr} {a0:Value} {Q:Unit->Shared->Prop}
theorem Fly.mark{o:Option Addr}(f:Fly B l e cls a0 s.heap)(k:∀ h',Fly B l e cls a0 h'->s.heap.UpToSlots h'->Q () { s with heap:=h' }):wpAny M A (setFlight (.ref e) o) Q E s:=by
 obtain ⟨fl,f1,f2,f3,oe,vs,T,oT,ts,he,hc,hd,h1,hn,hT,gT,dT,h3⟩:=f;have z:3 < ts.size:=(Array.getElem?_eq_some_iff.mp h3).1;have far:∀ (b:Addr) (g:Obj->Obj),b≠T->(s.heap.update T g).get? b=s.heap.get? b:=λ b g hb=>Heap.get?_update_other _ _ (Ne.symm hb);have nt:∀ b ob,s.heap.get? b=some ob->(∀ vs,ob.data≠.fields vs)->b≠T:=by
  rintro b ob hb hf rfl;rw [gT] at hb;cases hb;exact hf ts dT
 unfold setFlight;refine af (wpAny_field he hd h1 ?_);rw [if_pos (by simp:(Value.ref T != Value.none)=true)];refine wpAny_setField gT dT z (k _ ⟨_,λ b ob hb=>?_,f2,f3.of_keeps λ b ob hb hf=>⟨ob,?_,rfl⟩,oe,vs,T,_,_,?_,hc,hd,h1,hn,hT,Heap.get?_update_self _ gT (Obj.isFreed_of_fields (Obj.data_mapFields dT _)),Obj.data_mapFields dT _,by simp [z];rfl⟩ λ b ob hb hf=>⟨ob.slots,?_⟩)
 ·rw [far b _ (by rintro rfl;rw [hn] at hb;cases hb)];exact f1 b ob hb
 ·rw [far b _ (nt b ob hb hf)];exact hb
 ·rw [far e _ (Ne.symm hT)];exact he
 ·rw [far b _ (nt b ob hb hf)];exact hb
end
section
variable {N':List Str} {f:Addr} {E:XK}
end
section
open PySem.Builtin.Str
end
section
variable {k:Nat} {f:Addr} {E:XK} {o:Expr} {t:TA}
end
noncomputable def Its(z:Str):It:=⟨λ i _=>i < z.length,λ i H x H'=>H'=H/\∃ c,z.cps.toList[i]?=some c/\x = .str ⟨#[c]⟩,λ i _=>z.length<=i⟩
theorem zjV(z:Str)(t:Tok)(it:Addr):fO P w K tg (Its z) [it] it (λ i h=>h.IsStrIter it "str_ascii_iterator" z t i) where
 mem:=by simp
 obj:=λ i h st b hb=>by
  have e:b=it:=by simpa using hb
  subst e;obtain ⟨o,e,c,d⟩:=st;exact ⟨o,e,λ v z=>by rw [d] at z;cases z⟩
 keep:=λ i h h' st k=>by
  obtain ⟨o,e,r⟩:=st;exact ⟨o,k it (by simp) o e,r⟩
 item:=by
  intro X hP hw hK hc i pins s σ H E I hf st hg;subst hP hw hK;have hg:i < z.cps.size:=hg;obtain ⟨f0,f1,f2,f3,f4,f5⟩:=hf it (by simp);have hx:z.cps[i]?=some z.cps[i]:=by simp [hg]
  refine wpAny_pyNext_ascii_item st hx λ h' st' sb=>?_;have I1:Inv X pins σ H { s with heap:=h',toks:=s.toks+1 }:=I.turned (t':=s.toks+1) (λ b o hb e=>(sb.2 b hb).trans e) f0 f1 f3 f4 f5;obtain ⟨o,e,c,d⟩:=id st';exact ⟨_,rfl,jn (s:={ s with heap:=h',toks:=s.toks+1 }) e c d (by decide) ⟨.str ⟨#[z.cps[i]]⟩,H,I1,⟨_,rfl⟩,⟨rfl,_,by rw [Array.getElem?_toList];exact hx,rfl⟩,st',λ b hb=>(hf b hb).1⟩⟩
 done:=by
  intro X hP hw hK hc i pins s σ H E I hf st hg;subst hP hw hK;have hg:z.cps.size<=i:=hg;obtain ⟨f0,f1,f2,f3,f4,f5⟩:=hf it (by simp);exact wpAny_pyNext_ascii_end (I.ok.hd hc) st (by simp [hg]) λ h' eb=>⟨rfl,I.turned (t':=s.toks) (λ b o hb e=>eb b o hb e) f0 f1 f3 f4 f5⟩
 self:=λ _ _ _ _ _ st h=>wpAny_pyIter_striter_ascii st h
noncomputable def zcW(tl:TE):TI:=λ σ H R=>tl σ H λ x H1=>∃ z:Str,x = .str z/\z.cps.all (· < 128)=true/\R (Its z) H1
theorem zht{l:Expr}(hl:PE X l tl):PI X tg l (zcW tl):=by
 intro pins s σ H R I h;refine thn (hl pins s σ H _ I h) λ v s1 ⟨x,H1,I1,r1,q1⟩=>?_;obtain ⟨z,e,ha,q⟩:=q1;subst e;obtain ⟨t,rfl⟩:=r1;refine wpAny_pyIter_ascii ha ?_;refine ⟨s1.heap.objs.size,[s1.heap.objs.size],_,_,H1,rfl,I1.kept (t':=s1.toks) λ b o e=>aY _ e,zjV z t _,⟨_,Heap.get?_push_size _ rfl,rfl,rfl⟩,λ b hb=>?_,q⟩;have e:b=s1.heap.objs.size:=by simpa using hb
 subst e;exact I1.fpOk (Nat.le_refl _) (I1.hok.fresh (Nat.le_refl _))
section
variable {k:Nat} {E:XK} {y:Str} {o:Expr} {t:TA}
end
section
open PySem.Builtin.Str
end
theorem FnOk.or0{k:Nat}{f:Addr}(F:FnOk P w K mg base CX0 k f fd ps sp)(F':FnOk P w K mg base CX k f fd ps sp'):
  FnOk P w K mg base CX k f fd ps (λ vs H Q E=>sp vs H Q E\/sp' vs H Q E):=
 ⟨λ vs H Q E h=>h.elim (F.len vs H Q E) (F'.len vs H Q E),λ A outer s H args us vs Q E hr he hb hv h=>h.elim (λ h=>codeAny_mono (F.run A outer s H args us vs Q E hr he hb hv h) λ r s' hq=>by
  cases r with
  | error e=>exact False.elim hq
  | ok fl=>cases fl <;> exact hq) (λ h=>F'.run A outer s H args us vs Q E hr he hb hv h)⟩
section
variable [DecidableEq κ] {kn:KeyKind prog w κ}
theorem lG{v:Addr}{Q:String->Shared->Prop}(T:s.TypeIs (.ref v) "dict_valueiterator")(q:Q "dict_valueiterator" s):wpAny (model prog w) A (typeNameOfWhole (.ref v)) Q E s:=wpAny_typeNameOfWhole_valiter T q
theorem vY{v:Addr}{e:Nat}{ps:List (κ × Value)}{k:κ}{y:Value}(a1:s.heap.IsValIter v d i ps.length e)(a2:s.heap.DictAt kn d ps e)(a3:ps[i]?=some (k,y))(q:∀ h',h'.IsValIter v d (i+1) ps.length e->Heap.SameBut v s.heap h'->Q y { s with heap:=h' }):wpAny (model prog w) A (Builtin.SmallTypes.nextOf (.ref v)) Q E s:=by
 obtain ⟨o1,e1,c1,d1⟩:=id a1;obtain ⟨o2,es,e2,c2,d2,k2,p2,n2⟩:=id a2;unfold Builtin.SmallTypes.nextOf;refine af (wpAny_callSpecial?_slot (name:=Str.ofString "__next__") a1.typeIs F.slot_dict_valueiterator_next
  (wpAny_call_entry F.slot_dict_valueiterator_next a1.typeIs F.entry_dict_valueiterator_next ?_ (F.args_dict_valueiterator_next_1 _)))
 refine af (aG (af (af (af (lG a1.typeIs (aG (af (wpAny_fieldsOf e1 d1 ?_))))))));have ow:Builtin.Dict_items.ownsTuple "dict_valueiterator" = false:=by decide
 have sz:es.size=ps.length:=by rw [← p2.length];simp
 simp only [ow,Bool.false_eq_true,if_false];show wpAny _ _ (if (Value.ref d == Value.none)=true then _ else _) _ _ s;rw [if_neg (show ¬ ((Value.ref d == Value.none)=true) from bz)];refine af (aG (af (wpAny_dictEntries e2 d2 ?_)));rw [if_neg (by rw [sz];simp)];refine af (aG (af (wpAny_dictEpoch e2 d2 ?_)));rw [if_neg (by simp)];refine aG ?_;have lt:i < es.size:=by rw [sz];exact (al_gs.mp a3).1
 have ev:es[i].val=y:=(p2.get? (e:=es[i]) (by simp [lt]) a3).2;simp only [show ¬ ((i:Int) < 0) from by omega,if_false,Int.toNat_natCast,Array.getElem?_eq_getElem lt];refine af (af (lG a1.typeIs (aG (af (wpAny_isOneOf_valiter a1.typeIs ?_)))));show wpAny _ _ (setField (.ref v) 1 (rawInt ((i:Int)+1)) >>= _) _ _ s;refine af (wpAny_setField e1 d1 (by simp) ?_);have b1:(s.heap.update v (Obj.mapFields (·.setIfInBounds 1 (rawInt ((i:Int)+1))))).IsValIter v d (i+1) ps.length e:=
  ⟨_,Heap.get?_update_self _ e1 (Obj.isFreed_of_fields (Obj.data_mapFields d1 _)),(Obj.cls_mapFields ..).trans c1,by rw [Obj.data_mapFields d1];simp [rawInt]⟩
 generalize he:s.heap.update v (Obj.mapFields (·.setIfInBounds 1 (rawInt ((i:Int)+1))))=h' at b1;have sb:Heap.SameBut v s.heap h':=he ▸ Heap.SameBut.update ..;refine af (wpAny_holding (af (wpAny_isOneOf_valiter (s:={ s with heap:=h' }) b1.typeIs (af (wpAny_isOneOf_valiter (s:={ s with heap:=h' }) b1.typeIs ?_)))));exact aG (aG ⟨_,rfl,aG (ev ▸ q _ b1 sb)⟩)
theorem zfn{v:Addr}{e:Nat}{ps:List (κ × Value)}(hh:A.handled=none)(a1:s.heap.IsValIter v d i ps.length e)(a2:s.heap.DictAt kn d ps e)(a3:ps[i]?=none)(q:∀ h' x,Heap.ExtBut v s.heap h'->(∃ o,h'.get? x=some o/\o.cls = .type "StopIteration")->E (.ref x) { s with heap:=h' }):wpAny (model prog w) A (Builtin.SmallTypes.nextOf (.ref v)) Q E s:=by
 obtain ⟨o1,e1,c1,d1⟩:=id a1;obtain ⟨o2,es,e2,c2,d2,k2,p2,n2⟩:=id a2;unfold Builtin.SmallTypes.nextOf;refine af (wpAny_callSpecial?_slot (name:=Str.ofString "__next__") a1.typeIs F.slot_dict_valueiterator_next
  (wpAny_call_entry F.slot_dict_valueiterator_next a1.typeIs F.entry_dict_valueiterator_next ?_ (F.args_dict_valueiterator_next_1 _)))
 refine af (aG (af (af (af (lG a1.typeIs (aG (af (wpAny_fieldsOf e1 d1 ?_))))))));have ow:Builtin.Dict_items.ownsTuple "dict_valueiterator" = false:=by decide
 have sz:es.size=ps.length:=by rw [← p2.length];simp
 simp only [ow,Bool.false_eq_true,if_false];show wpAny _ _ (if (Value.ref d == Value.none)=true then _ else _) _ _ s;rw [if_neg (show ¬ ((Value.ref d == Value.none)=true) from bz)];refine af (aG (af (wpAny_dictEntries e2 d2 ?_)));rw [if_neg (by rw [sz];simp)];refine af (aG (af (wpAny_dictEpoch e2 d2 ?_)));rw [if_neg (by simp)];refine aG ?_;have lt:es.size<=i:=by rw [sz];simpa using a3
 simp only [show ¬ ((i:Int) < 0) from by omega,if_false,Int.toNat_natCast,Array.getElem?_eq_none lt];refine af (af (lG a1.typeIs (aG ?_)));show wpAny _ _ (setField (.ref v) 0 .none >>= _) _ _ s;refine af (wpAny_setField e1 d1 (by simp) ?_);refine af ?_;simp only [newExc,newTuple];refine af (wpAny_newObj_type (af (m:=firstArgMember _ _) (wpAny_of_eq (a:=Value.none) (by first | rfl | (simp only [firstArgMember];rfl)) (wpAny_newObj_type ?_ (by size_fits)))) (by size_fits));simp only [raiseNew];refine af (wpAny_handled ?_);rw [show A.in1.handled=none from hh];exact af (aG (wpAny_throw (q _ _ (((Heap.SameBut.update ..).extBut.push _).push _) ⟨_,Heap.get?_push_size _ rfl,rfl⟩)))
structure ZAp (z TI TO i1 i2:Addr):Prop where
 a1:TI≠z
 a2:TO≠z
 a3:i1≠z
 a4:i2≠z
 a5:TO≠i1
 a6:TO≠i2
 a7:i1≠i2
noncomputable def Stays(L:List Addr)(S:Heap->Prop):Prop:=∀ h h',S h->(∀ c o,c∉L->h.get? c=some o->h'.get? c=some o)->S h'
theorem Stays.but{c:Addr}(g:Stays L S)(hs:S h)(b:Heap.SameBut c h h')(hc:c∈L):S h':=g h h' hs λ x o hx e=>b.extBut x o (λ z=>hx (z ▸ hc)) e
theorem zkq{TI TO:Addr}{x y a b:Value}{S1 S1' S2 S2':Heap->Prop}(D:ZAp z TI TO i1 i2)(z0:IsZip s.heap z TI TO .none)(t0:IsPair s.heap TI (.ref i1) (.ref i2))(u0:IsPair s.heap TO a b)(p1:S1 s.heap)(p2:S2 s.heap)(g1:Stays [z,TO,i2] S1)(g1':Stays [z,TO,i2] S1')(g2:Stays [z,TO,i1] S2)(g2':Stays [z,TO,i1] S2')(n1:∀ (A:Around) (E:Value->Shared->Prop) (s:Shared) (Q:Value->Shared->Prop),S1 s.heap->(∀ h',S1' h'->Heap.SameBut i1 s.heap h'->Q x { s with heap:=h' })->wpAny (model prog w) A (Builtin.SmallTypes.nextOf (.ref i1)) Q E s)(n2:∀ (A:Around) (E:Value->Shared->Prop) (s:Shared) (Q:Value->Shared->Prop),S2 s.heap->(∀ h',S2' h'->Heap.SameBut i2 s.heap h'->Q y { s with heap:=h' })->wpAny (model prog w) A (Builtin.SmallTypes.nextOf (.ref i2)) Q E s)(q:∀ h',IsZip h' z TI TO (rawInt s.heap.objs.size)->IsPair h' TO x y->S1' h'->S2' h'->IsPair h' s.heap.objs.size x y->h'.objs.size=s.heap.objs.size+1->
   (∀ c o,c∉[z,TO,i1,i2]->s.heap.get? c=some o->h'.get? c=some o)->Q (.ref s.heap.objs.size) { s with heap:=h' }):
  wpAny (model prog w) A (Builtin.«zip.__next__» ⟨[.ref z],[]⟩) (λ r s1=>∃ v,r = .done (.ret v)/\Q v s1) E s:=by
 refine af (m:=field (.ref z) 2) (wpAny_field z0 rfl (x:=.bool false) rfl ?_);refine af (m:=field (.ref z) 3) (wpAny_field z0 rfl (x:=.ref TI) rfl (af (wpAny_seqItems t0 rfl ?_)));refine af (m:=Builtin.SmallTypes.ownedTupleIsFree (.ref z)) ?_;unfold Builtin.SmallTypes.ownedTupleIsFree;refine af (wpAny_field z0 rfl (x:=.none) rfl (aG ?_));simp only [if_true];refine af (wpAny_rule (af (wpAny_field z0 rfl (x:=.ref TO) rfl (af (wpAny_setField_rec z0 (by simp) λ hA zA sA=>?_)))));replace zA:IsZip hA z TI TO .ellipsis:=zA;refine af ?_;simp only [List.zipIdx_cons,List.zipIdx_nil,List.forIn_cons,List.forIn_nil];refine af (af (wpAny_onRaise ?_));refine af (m:=Builtin.SmallTypes.nextOf (.ref i1)) (n1 _ _ _ _ (g1.but p1 sA (by simp)) λ hB pB sB=>aG ?_);have uB:IsPair hB TO a b:=sB.extBut _ _ D.a5 (sA.extBut _ _ D.a2 u0);refine af (wpAny_seqItems uB rfl (af (wpAny_updateSeq_pair uB λ hC uC sC=>af (wpAny_letGo (aG ?_)))));replace uC:IsPair hC TO x b:=uC;have p2A:S2 hC:=g2.but (g2.but (g2.but p2 sA (by simp)) sB (by simp)) sC (by simp);refine af (af (wpAny_onRaise ?_));refine af (m:=Builtin.SmallTypes.nextOf (.ref i2)) (n2 _ _ _ _ p2A λ hF pF sF=>aG ?_);have uF:IsPair hF TO x b:=sF.extBut _ _ D.a6 uC;refine af (wpAny_seqItems uF rfl (af (wpAny_updateSeq_pair uF λ hG uG sG=>af (wpAny_letGo (aG (aG ?_))))));replace uG:IsPair hG TO x y:=uG;refine af (wpAny_seqItems uG rfl (af (wpAny_newTuple ?_)));have sz:hG.objs.size=s.heap.objs.size:=by rw [sG.1,sF.1,sC.1,sB.1,sA.1]
 have zG:IsZip hG z TI TO .ellipsis:=sG.extBut _ _ D.a2.symm (sF.extBut _ _ D.a4.symm (sC.extBut _ _ D.a2.symm (sB.extBut _ _ D.a3.symm zA)));have kG:∀ c o,c∉[z,TO,i1,i2]->s.heap.get? c=some o->hG.get? c=some o:=λ c o hc e=>by
  simp only [al_mc,List.not_mem_nil,or_false,not_or] at hc;obtain ⟨c1,c2,c3,c4⟩:=hc;exact sG.extBut _ _ c2 (sF.extBut _ _ c4 (sC.extBut _ _ c2 (sB.extBut _ _ c3 (sA.extBut _ _ c1 e))))
 have q1:S1' hG:=g1'.but (g1'.but (g1'.but pB sC (by simp)) sF (by simp)) sG (by simp);have q2:S2' hG:=g2'.but pF sG (by simp);have zlt:z < hG.objs.size:=Heap.lt_size zG;refine af (m:=Builtin.SmallTypes.ownedTupleHandOut (.ref z) (.ref hG.objs.size)) ?_;unfold Builtin.SmallTypes.ownedTupleHandOut;have zH:IsZip (hG.push { cls:=.type "tuple", data:=.seq #[x,y] }) z TI TO .ellipsis:=aY _ zG;refine af (wpAny_setField_rec zH (by simp) λ hI zI sI=>?_);replace zI:IsZip hI z TI TO (rawInt hG.objs.size):=zI;refine wpAny_setField_rec zI (by simp) λ hJ zJ sJ=>?_;replace zJ:IsZip hJ z TI TO (rawInt hG.objs.size):=zJ;have up:∀ c o,c≠z->hG.get? c=some o->hJ.get? c=some o:=λ c o c1 e=>sJ.extBut _ _ c1 (sI.extBut _ _ c1 (aY _ e));have tJ:IsPair hJ hG.objs.size x y:=sJ.extBut _ _ (Nat.ne_of_gt zlt) (sI.extBut _ _ (Nat.ne_of_gt zlt) (Heap.get?_push_size _ rfl));have szJ:hJ.objs.size=hG.objs.size+1:=by rw [sJ.1,sI.1,Heap.size_push]
 rw [sz] at zJ tJ szJ;refine aG ⟨_,rfl,?_⟩;show Q (.ref hG.objs.size) _;rw [sz];exact q hJ zJ (up _ _ D.a2 uG) (g1' _ _ q1 λ c o hc e=>up c o (λ y=>hc (y ▸ bB)) e) (g2' _ _ q2 λ c o hc e=>up c o (λ y=>hc (y ▸ bB)) e) tJ szJ λ c o hc e=>up c o (λ y=>hc (y ▸ bB)) (kG c o hc e)
theorem zkp{TI TO:Addr}{a b:Value}{S1 S2:Heap->Prop}{Q:Fin->Shared->Prop}(D:ZAp z TI TO i1 i2)(z0:IsZip s.heap z TI TO .none)(t0:IsPair s.heap TI (.ref i1) (.ref i2))(u0:IsPair s.heap TO a b)(p1:S1 s.heap)(p2:S2 s.heap)(g1:Stays [z,TO,i2] S1)(g2:Stays [z,TO,i1] S2)(n1:(∃ x,∀ (A:Around) (E:Value->Shared->Prop) (s:Shared) (Q:Value->Shared->Prop),S1 s.heap->(∀ h',Heap.SameBut i1 s.heap h'->Q x { s with heap:=h' })->wpAny (model prog w) A (Builtin.SmallTypes.nextOf (.ref i1)) Q E s)/\
    (∀ (A':Around) (E:Value->Shared->Prop) (s:Shared) (Q:Value->Shared->Prop),A'.handled=none->S2 s.heap->(∀ h' x,Heap.ExtBut i2 s.heap h'->(∃ o,h'.get? x=some o/\o.cls = .type "StopIteration")->E (.ref x) { s with heap:=h' })->wpAny (model prog w) A' (Builtin.SmallTypes.nextOf (.ref i2)) Q E s)\/
   (∀ (A':Around) (E:Value->Shared->Prop) (s:Shared) (Q:Value->Shared->Prop),A'.handled=none->S1 s.heap->(∀ h' x,Heap.ExtBut i1 s.heap h'->(∃ o,h'.get? x=some o/\o.cls = .type "StopIteration")->E (.ref x) { s with heap:=h' })->wpAny (model prog w) A' (Builtin.SmallTypes.nextOf (.ref i1)) Q E s))(hh:A.handled=none)(q:∀ h' e,(∀ c o,c∉[z,TO,i1,i2]->s.heap.get? c=some o->h'.get? c=some o)->(∃ o,h'.get? e=some o/\o.cls = .type "StopIteration")->E (.ref e) { s with heap:=h' }):wpAny (model prog w) A (Builtin.«zip.__next__» ⟨[.ref z],[]⟩) Q E s:=by
 refine af (m:=field (.ref z) 2) (wpAny_field z0 rfl (x:=.bool false) rfl ?_);refine af (m:=field (.ref z) 3) (wpAny_field z0 rfl (x:=.ref TI) rfl (af (wpAny_seqItems t0 rfl ?_)));refine af (m:=Builtin.SmallTypes.ownedTupleIsFree (.ref z)) ?_;unfold Builtin.SmallTypes.ownedTupleIsFree;refine af (wpAny_field z0 rfl (x:=.none) rfl (aG ?_));simp only [if_true];refine af (wpAny_rule (af (wpAny_field z0 rfl (x:=.ref TO) rfl (af (wpAny_setField_rec z0 (by simp) λ hA zA sA=>?_)))));replace zA:IsZip hA z TI TO .ellipsis:=zA;refine af ?_;simp only [List.zipIdx_cons,List.zipIdx_nil,List.forIn_cons,List.forIn_nil];refine af (af (wpAny_onRaise ?_));rcases n1 with ⟨⟨x,n1⟩,n2⟩ | n1
 ·refine af (m:=Builtin.SmallTypes.nextOf (.ref i1)) (n1 _ _ _ _ (g1.but p1 sA (by simp)) λ hB sB=>aG ?_);have uB:IsPair hB TO a b:=sB.extBut _ _ D.a5 (sA.extBut _ _ D.a2 u0);refine af (wpAny_seqItems uB rfl (af (wpAny_updateSeq_pair uB λ hC uC sC=>af (wpAny_letGo (aG ?_)))));have p2A:S2 hC:=g2.but (g2.but (g2.but p2 sA (by simp)) sB (by simp)) sC (by simp);refine af (af (wpAny_onRaise ?_));refine af (m:=Builtin.SmallTypes.nextOf (.ref i2)) (n2 _ _ _ _ hh p2A λ hF e sF he=>?_);obtain ⟨o,eo,co⟩:=he;have zF:IsZip hF z TI TO .ellipsis:=sF _ _ D.a4.symm (sC.extBut _ _ D.a2.symm (sB.extBut _ _ D.a3.symm zA));have ez:e≠z:=λ r=>by subst r;rw [zF] at eo;cases eo;simp at co
  refine wpAny_setField_rec zF (by simp) λ hG _ sG=>q hG e (λ c o hc r=>?_) ⟨o,sG.extBut _ _ ez eo,co⟩;simp only [al_mc,List.not_mem_nil,or_false,not_or] at hc;obtain ⟨c1,c2,c3,c4⟩:=hc;exact sG.extBut _ _ c1 (sF _ _ c4 (sC.extBut _ _ c2 (sB.extBut _ _ c3 (sA.extBut _ _ c1 r))))
 ·refine af (m:=Builtin.SmallTypes.nextOf (.ref i1)) (n1 _ _ _ _ hh (g1.but p1 sA (by simp)) λ hB e sB he=>?_);obtain ⟨o,eo,co⟩:=he;have zB:IsZip hB z TI TO .ellipsis:=sB _ _ D.a3.symm zA;have ez:e≠z:=λ r=>by subst r;rw [zB] at eo;cases eo;simp at co
  refine wpAny_setField_rec zB (by simp) λ hG _ sG=>q hG e (λ c o hc r=>?_) ⟨o,sG.extBut _ _ ez eo,co⟩;simp only [al_mc,List.not_mem_nil,or_false,not_or] at hc;obtain ⟨c1,c2,c3,c4⟩:=hc;exact sG.extBut _ _ c1 (sB _ _ c3 (sA.extBut _ _ c1 r))
end
noncomputable def zv3(h:Heap)(o1 o2:Obj):Heap:=((h.push o1).push o2).push { cls:=.type "tuple", data:=.seq #[.ref h.objs.size,.ref (h.push o1).objs.size] }
noncomputable def zv4(h:Heap)(o1 o2:Obj):Heap:=(zv3 h o1 o2).push { cls:=.type "tuple", data:=.seq #[.none,.none] }
noncomputable def zv5(h:Heap)(o1 o2:Obj):Heap:=(zv4 h o1 o2).push { cls:=.type "zip", data:=.fields #[.none,.bool false,.bool false,.ref ((h.push o1).push o2).objs.size,.ref (zv3 h o1 o2).objs.size] }
theorem zks(h:Heap)(o1 o2:Obj)(n1:o1.isFreed=false)(n2:o2.isFreed=false):(zv5 h o1 o2).get? h.objs.size=some o1/\(zv5 h o1 o2).get? (h.objs.size+1)=some o2/\
  IsPair (zv5 h o1 o2) (h.objs.size+2) (.ref h.objs.size) (.ref (h.objs.size+1))/\IsPair (zv5 h o1 o2) (h.objs.size+3) .none .none/\IsZip (zv5 h o1 o2) (h.objs.size+4) (h.objs.size+2) (h.objs.size+3) .none/\
  (∀ c o,h.get? c=some o->(zv5 h o1 o2).get? c=some o)/\(zv4 h o1 o2).objs.size=h.objs.size+4:=by
 have z1:(h.push o1).objs.size=h.objs.size+1:=Heap.size_push ..;have z2:((h.push o1).push o2).objs.size=h.objs.size+2:=by rw [Heap.size_push,z1]
 have z3:(zv3 h o1 o2).objs.size=h.objs.size+3:=by unfold zv3;rw [Heap.size_push,z2]
 have z4:(zv4 h o1 o2).objs.size=h.objs.size+4:=by unfold zv4;rw [Heap.size_push,z3]
 have u3:∀ c o,((h.push o1).push o2).get? c=some o->(zv5 h o1 o2).get? c=some o:=λ c o e=>aY _ (aY _ (aY _ e));have r3:(zv5 h o1 o2).get? ((h.push o1).push o2).objs.size=some _:=aY _ (aY _ (Heap.get?_push_size _ rfl));have r4:(zv5 h o1 o2).get? (zv3 h o1 o2).objs.size=some _:=aY _ (Heap.get?_push_size _ rfl);have r5:(zv5 h o1 o2).get? (zv4 h o1 o2).objs.size=some _:=Heap.get?_push_size _ rfl;have r2:(zv5 h o1 o2).get? (h.push o1).objs.size=some o2:=u3 _ _ (Heap.get?_push_size _ n2);rw [z1] at r2;rw [z2,z1] at r3;rw [z3] at r4;rw [z4,z2,z3] at r5;exact ⟨u3 _ _ (aY _ (Heap.get?_push_size _ n1)),r2,r3,r4,r5,λ c o e=>u3 _ _ (aY _ (aY _ e)),z4⟩
section
variable [DecidableEq κ] {kn:KeyKind prog w κ}
theorem zkr(v d l:Addr)(ps:List (κ × Value))(e:Nat)(xs:Array Value):
  MeetsIn prog w (Builtin.«zip.__new__» ⟨[.type "zip", .ref v,.ref l],[]⟩) (λ _ R s=>s.heap.IsValuesView v d/\s.heap.DictAt kn d ps e/\s.heap.IsList l xs/\∀ h',(∀ c o,s.heap.get? c=some o->h'.get? c=some o)->h'.IsValIter s.heap.objs.size d 0 ps.length e->h'.IsListIter (s.heap.objs.size+1) l 0->
   IsPair h' (s.heap.objs.size+2) (.ref s.heap.objs.size) (.ref (s.heap.objs.size+1))->IsPair h' (s.heap.objs.size+3) .none .none->IsZip h' (s.heap.objs.size+4) (s.heap.objs.size+2) (s.heap.objs.size+3) .none->
   R (.ok (.ret (.ref (s.heap.objs.size+4)))) { s with heap:=h' }):=
 .of_wp λ A R s h=>by
  obtain ⟨hp,g,dr,tk,os⟩:=s;obtain ⟨b1,b2,b3,q⟩:=h;have su:=sub_zip;have B1:Heap.IsValuesView (Shared.heap ⟨hp,g,dr,tk,os⟩) v d:=b1;have B2:Heap.DictAt kn (Shared.heap ⟨hp,g,dr,tk,os⟩) d ps e:=b2;have B3:Heap.IsList (Shared.heap ⟨hp.push { cls:=.type "dict_valueiterator", data:=.fields #[.ref d,.int 0 0,.int ps.length 0,.int e 0] },g,dr,tk,os⟩) l xs:=Heap.IsList.push b3 _
  wp_walk using wpAny_pyIter_values B1 B2,wpAny_pyIter_list B3
  refine ⟨_,rfl,?_⟩;obtain ⟨f1,f2,f3,f4,f5,f6,f7⟩:=zks hp { cls:=.type "dict_valueiterator", data:=.fields #[.ref d,.int 0 0,.int ps.length 0,.int e 0] } { cls:=.type "list_iterator", data:=.fields #[.ref l,.int 0 0] } rfl rfl;have r:=q _ f6 ⟨_,f1,rfl,rfl⟩ ⟨_,f2,rfl,rfl⟩ f3 f4 f5;rw [show (Shared.heap ⟨hp,g,dr,tk,os⟩).objs.size+4=(zv4 hp _ _).objs.size from f7.symm] at r;exact r
end
noncomputable def met{κ:Type}[DecidableEq κ]:List κ->List κ->List κ
 | acc,[]=>acc
 | acc,k::r=>met (if k∈acc then acc else acc++[k]) r
section
variable [DecidableEq κ] {kn:KeyKind prog w κ} {G:Array GenState->Array GenState->Prop} {P:Nat->Value->Prop} {St:Nat->Shared->Prop}
noncomputable def cu(ks:List κ)(i:Nat):List κ:=met [] (ks.take i)
theorem vG:∀ (acc l:List κ) (k:κ),met acc (l++[k])=(if k∈met acc l then met acc l else met acc l++[k])
 | acc,[],k=>rfl
 | acc,j::r,k=>vG _ r k
theorem kF:∀ (acc l:List κ),(met acc l).length<=acc.length+l.length
 | acc,[]=>Nat.le_refl _
 | acc,j::r=>by
  have h:=kF (if j∈acc then acc else acc++[j]) r;have h2:(if j∈acc then acc else acc++[j]).length<=acc.length+1:=by split <;> simp
  show (met _ r).length<=acc.length+(r.length+1)
  omega
theorem zi6(W:WalksS prog w A.in1 I fp wr G n P St)(S:Addr)(nS:S∉fp)(ks:List κ)(hn:ks.length=n)(hv:∀ (i:Nat) (v:Value),P i v->∃ k,ks[i]?=some k/\kn.is k v=true/\v.scannable=true)(hb:n+1 < scanBound):
  ∀ (m i:Nat) (s:Shared),n - i=m->i<=n->St i s->s.heap.SetOf kn S (λ k=>decide (k∈cu ks i)) (cu ks i).length->
   (∀ s',Moved (S::wr) G s s'->s'.heap.SetOf kn S (λ k=>decide (k∈cu ks n)) (cu ks n).length->R (.ok (.ret .none)) s')->
   codeAny (model prog w) A (.builtin "set.update.loop" { pos:=[.ref S,.ref I] }) R s:=by
 have nW:S∉wr:=λ h=>nS (W.sub _ h);have up:∀ b∈wr,b∈S::wr:=λ b h=>bp _ h;intro m;induction m with
 | zero=>
  intro i s hk hi st hS q;have e:i=n:=by omega
  subst e;refine codeAny_builtin F.entry_set_update_loop ?_;rw [Around.under_plainId F.plain_set_update_loop _];refine af (m:=pyNext (.ref I)) (W.done s _ _ st λ s' mv=>?_);refine aG (q s' (mv.mono up) ?_);obtain ⟨o,es,ep,t,e,r⟩:=hS;exact ⟨o,es,ep,t,mv.heap S _ nW e,r⟩
 | succ m ih=>
  intro i s hk hi st hS q;have lt:i < n:=by omega
  refine codeAny_builtin F.entry_set_update_loop ?_;rw [Around.under_plainId F.plain_set_update_loop _];refine af (m:=pyNext (.ref I)) (W.item i s _ _ lt st λ v s' hP st' mv=>?_);obtain ⟨k,ek,hk1,hk2⟩:=hv i v hP;have hS':s'.heap.SetOf kn S (λ k=>decide (k∈cu ks i)) (cu ks i).length:=by
   obtain ⟨o,es,ep,tb,e,r⟩:=hS;exact ⟨o,es,ep,tb,mv.heap S _ nW e,r⟩
  refine af (m:=holding [v] (setAdd S v)) (wpAny_holding ?_);unfold setAdd;refine wpAny_holding (af (kn.pyHash (k:=k) hk1 ?_));have room:(cu ks i).length+1 < scanBound:=by
   have:=kF [] (ks.take i);rw [bc] at this;have:(cu ks i).length<=0+min i ks.length:=this;omega
  have es:cu ks (i+1)=(if k∈cu ks i then cu ks i else cu ks i++[k]):=by
   unfold cu;rw [List.take_add_one,ek];exact vG [] _ k
  refine wpAny_setAddHashed_of (knd:=kn) (s:={ s' with toks:=s'.toks+1 }) hk1 hk2 hS' room λ h' sb hS2=>?_;have hSi:h'.SetOf kn S (λ k=>decide (k∈cu ks (i+1))) (cu ks (i+1)).length:=by
   have e1:(λ j=>decide (j∈cu ks (i+1)))=λ j=>decide (j∈cu ks i) || decide (j=k):=by
    funext j
    rw [es];by_cases hm:k∈cu ks i
    ·rw [if_pos hm];by_cases hj:j=k
     ·subst hj;simp [hm]
     ·simp [hj]
    ·rw [if_neg hm];simp
   have e2:(cu ks (i+1)).length=(if decide (k∈cu ks i)=true then (cu ks i).length else (cu ks i).length+1):=by
    rw [es];by_cases hm:k∈cu ks i
    ·rw [if_pos hm,if_pos (aN hm)]
    ·rw [if_neg hm,if_neg (by simp [hm])];simp
   rw [e1,e2];exact hS2
  refine aG ⟨plainId_quiet F.plain_set_update_loop _,ih (i+1) _ (by omega) lt (W.frame _ s' _ _ st' (Nat.le_succ _) λ b hb o e=>?_) hSi λ s'' mv2 hS''=>?_⟩
  ·rw [sb.2 b (λ h:b=S=>nS (by rw [← h];exact hb))];exact e
  ·refine q s'' (Moved.trans W.gtrans ((mv.mono up).then_heap (Nat.le_succ _) λ b o hb e=>?_) mv2) hS'';rw [sb.2 b (λ h:b=S=>hb (by rw [h];exact bB))];exact e
end
section
variable [DecidableEq κ] {kn:KeyKind prog w κ}
noncomputable abbrev fc(led:Bool):Obj:={ cls:=.type "set", dict:=none,data:=.set #[] 0 (.fresh 0 0 led) }
set_option maxHeartbeats 4000001 in
theorem zi5{l:Addr}{its:Array Value}{ks:List κ}(hh:A.handled=none)(hl:s.heap.IsList l its)(hn:ks.length=its.size)(hv:∀ (i:Nat) (v:Value),its[i]?=some v->∃ k,ks[i]?=some k/\kn.is k v=true/\v.scannable=true)(hb:its.size+1 < scanBound)(q:∀ (h':Heap) (tk:Nat),h'.SetOf kn s.heap.objs.size (λ k=>decide (k∈met [] ks)) (met [] ks).length->(∀ b o,b < s.heap.objs.size->s.heap.get? b=some o->h'.get? b=some o)->Q (.ref s.heap.objs.size) { s with heap:=h',toks:=tk }):wpAny (model prog w) A (call (.type "set") [.ref l]) Q E s:=by
 have em:cu ks its.size=met [] ks:=by unfold cu;rw [← hn,bd]
 obtain ⟨c,tl,h0⟩:=F.called_set.mro;have h1:=F.called_set.made;have h2:=F.called_set.sub;have h3:=F.called_set.notType;have h4:=F.called_set.canCreate;have h5:=F.typeCall_set_1 (.ref l);refine wpAny_call (codeAny_of_tree (?_:wpAny _ _ (callAny (.type "set") _) _ _ _));refine aG ⟨Code.quiet_builtin _ (by decide +kernel),codeAny_builtin F.entry_type_call ?_⟩;rw [Around.under_plain (weight_type_call_type "set" [.ref l] []) rfl]
 repeat (any_goals first | assumption | wp_step)
 refine codeAny_mono (code_set_new_1 (.ref l) (E:=E) (Q₁:=λ x s1=>∃ led:Bool,x = .ref s.heap.objs.size/\s1={ s with heap:=s.heap.push (fc led) }) λ led=>⟨led,rfl,rfl⟩) λ r s1 hr=>?_;cases r with
 | error e=>exact hr
 | ok fl=>
  cases fl with
  | ret x=>
   obtain ⟨led,rfl,rfl⟩:=hr;have gS:(s.heap.push (fc led)).get? s.heap.objs.size=some (fc led):=Heap.get?_push_size _ rfl;have tS:Shared.TypeIs { s with heap:=s.heap.push (fc led) } (.ref s.heap.objs.size) "set" := ⟨_,gS,rfl⟩
   have i1:=F.called_set.init.lookup;have i2:=F.called_set.init.bind (.ref s.heap.objs.size)
   repeat (any_goals first | assumption | wp_step)
   refine codeAny_mono (codeAny_call_builtin (R:=wants (λ r s2=>r = .none/\∃ h' tk,s2={ s with heap:=h',toks:=tk }/\h'.SetOf kn s.heap.objs.size (λ k=>decide (k∈met [] ks)) (met [] ks).length/\
     (∀ b o,b < s.heap.objs.size->s.heap.get? b=some o->h'.get? b=some o)) E) F.called_set.init.plain F.entry_set_init (check_set_init_1 tS ?_)) λ r2 s2 hr2=>?_
   ·obtain ⟨ol,gl,cl,nl,dl⟩:=hl;obtain ⟨oc,od,oa,os⟩:=ol;simp only at cl dl;subst cl;subst dl;have gl':(s.heap.push (fc led)).get? l=some { cls:=.type "list", dict:=od,data:=.seq its nl,slots:=os }:=aY _ gl;have j1:=F.sub_list_set;have j2:=F.sub_list_frozenset;have j3:(Value.type "list" == Value.type "dict")=false:=by decide
    have L1:(s.heap.push (fc led)).IsList l its:=⟨_,gl',rfl,nl,rfl⟩
    unfold Builtin.«set.__init__» noKeywords Builtin.Frozenset.updateFrom;generalize hP:pyIter=PI
    wp_walk
    subst hP;refine wpAny_pyIter_list L1 (af (wpAny_runValue ?_));have ltS:l < s.heap.objs.size:=Heap.lt_size gl;have h3:A.in1.in1.in1.handled=none:=by simp [hh]
    have zI:(s.heap.push (fc led)).objs.size=s.heap.objs.size+1:=Heap.size_push ..;have nI:l≠(s.heap.push (fc led)).objs.size:=by rw [zI];exact Nat.ne_of_lt (Nat.lt_succ_of_lt ltS)
    have nS:s.heap.objs.size∉[(s.heap.push (fc led)).objs.size,l]:=by
     rw [zI];simp only [al_mc,List.not_mem_nil,or_false,not_or];exact ⟨Nat.ne_of_lt (Nat.lt_succ_self _),Nat.ne_of_gt ltS⟩
    refine zi6 (kn:=kn) ((Walks.list h3 _ l nI its).toS) s.heap.objs.size nS ks hn hv hb (its.size - 0) 0 _ (by omega) (Nat.zero_le _) ⟨⟨_,Heap.get?_push_size _ rfl,rfl,rfl⟩,(L1.push _)⟩ ?_ λ s' mv hS'=>?_
    ·have g0:((s.heap.push (fc led)).push { cls:=.type "list_iterator", data:=.fields #[.ref l,.int 0 0] }).get? s.heap.objs.size=some (fc led):=aY _ gS;have:=(PyProof.Rows.setObjOf_fresh (knd:=kn) led).setOf g0 (by unfold scanBound;omega);exact this
    ·rw [em] at hS';obtain ⟨h',g',d',tk',o'⟩:=s';have eg:g'=s.gens:=mv.gens;have ed:d'=s.drawn:=mv.drawn;have eo:o'=s.os:=mv.os;subst eg;subst ed;subst eo;refine aG (aG ⟨rfl,h',tk',rfl,hS',λ b o hb e=>?_⟩);refine mv.heap b o ?_ (aY _ (aY _ e));simp only [al_mc,List.not_mem_nil,or_false,not_or];exact ⟨Nat.ne_of_lt hb,by rw [zI];exact Nat.ne_of_lt (Nat.lt_succ_of_lt hb)⟩
   ·cases r2 with
    | error e=>exact hr2
    | ok fl2=>
     cases fl2 with
     | ret r=>
      obtain ⟨rfl,h',tk,rfl,hS',hk'⟩:=hr2
      repeat (any_goals first | assumption | wp_step)
      exact q _ _ hS' hk'
     | _=>exact hr2.elim
  | _=>exact hr.elim
end
section
open PySem.W
section
variable {T:String} {r:Addr} {OK:Heap->Prop} {P:Nat->Value->Prop}
theorem zbc{Q:List Value->Shared->Prop}(K:KdlSrc prog w T r d n P OK)(hh:A.handled=none)(ok:OK s.heap)(hn:n<=sizeLine)(q:∀ (h':Heap) (tk:Nat) (acc:Array Value),(∀ b o,s.heap.get? b=some o->h'.get? b=some o)->s.heap.objs.size < h'.objs.size->ItemsOf P acc n->Q acc.toList { s with heap:=h',toks:=tk }):wpAny (model prog w) A (collect (.ref r)) Q E s:=by
 have lt:=K.there _ ok;unfold collect;refine af (wpAny_runValue (codeAny_builtin entry_proto_collect' ?_));rw [Around.under_plainId F.plain_proto_collect _];refine af (m:=newList []) (wpAny_newObj_type (aG ⟨plainId_quiet F.plain_list_iadd _,codeAny_builtin entry_list_iadd' ?_⟩));rw [Around.under_plainId F.plain_list_iadd _];have g0:(s.heap.push { cls:=.type "list", data:=.seq ([]:List Value).toArray }).get? s.heap.objs.size=some { cls:=.type "list", data:=.seq #[] }:=Heap.get?_push_size _ rfl;have ke:=kdl_extend (A:=A) (s:={ s with heap:=s.heap.push { cls:=.type "list", data:=.seq ([]:List Value).toArray } })
  (R:=λ (x:Result) (s1:Shared)=>∃ (h':Heap) (tk:Nat) (acc:Array Value) (c:Nat),x = .ok (.ret (.ref s.heap.objs.size))/\s1={ s with heap:=h',toks:=tk }/\(∀ b o,s.heap.get? b=some o->h'.get? b=some o)/\h'.get? s.heap.objs.size=some { cls:=.type "list", dict:=none,data:=.seq acc c,slots:=#[] }/\ItemsOf P acc n)
  K hh (K.keep _ _ ok λ b _ o e=>aY _ e) s.heap.objs.size (Nat.ne_of_gt lt.1) (Nat.ne_of_gt lt.2) (.ref s.heap.objs.size) 0 g0
  (λ h' tk acc c hk g it=>⟨h',tk,acc,c,rfl,rfl,λ b o e=>hk b o (Nat.ne_of_lt (Heap.lt_size e)) (aY _ e),g,it⟩) hn
 refine wpAny_mono ke (λ fin s1 x=>?_) λ e s1 x=>?_
 ·cases fin with
  | done f=>
   obtain ⟨h',tk,acc,c,e,rfl,hk,g,it⟩:=x;cases e;exact af (m:=load s.heap.objs.size) (wpAny_load g (aG (q h' tk acc hk (Heap.lt_size g) it)))
  | again c1=>
   refine ⟨x.1,codeAny_mono x.2 λ y s2 z=>?_⟩;obtain ⟨h',tk,acc,c,rfl,rfl,hk,g,it⟩:=z;exact af (m:=load s.heap.objs.size) (wpAny_load g (aG (q h' tk acc hk (Heap.lt_size g) it)))
 ·obtain ⟨_,_,_,_,e',_⟩:=x;cases e'
theorem zjf(K:KdlSrc prog w T r d n P OK)(hh:A.handled=none)(ok:OK s.heap)(h64:n < 64)(hI:∀ vs:List Value,vs.length=n->(∀ (j:Nat) (v:Value),vs[j]?=some v->P j v)->IntsAre vs ns)(q:∀ (a:Addr) (h':Heap) (tk:Nat) (out:Array Value) (e:Nat) (ns':List Int),(∀ b o,s.heap.get? b=some o->h'.get? b=some o)->s.heap.objs.size<=a->h'.get? a=some (seqObj "list" out e)->IntsAre out.toList ns'->ns'.Perm ns->ns'.Pairwise (·<=·)->Q (.ref a) { s with heap:=h',toks:=tk }):wpAny (model prog w) A (call (.builtin "sorted") [.ref r]) Q E s:=by
 refine Calls.call_function_entry kind_sorted plain_sorted entry_sorted (args_sorted1 _) ?_;unfold Builtin.«sorted»;refine af (m:=checkCount "sorted" 1 1 _) (aG (af (zbc (A:=A.in1) K hh ok (Nat.le_of_lt (Nat.lt_trans h64 (by decide))) λ h1 tk acc k1 hz a1=>?_)));have al:acc.toList.length=n:=by rw [Array.length_toList];exact a1.1
 have hi:=hI acc.toList al λ j v e=>a1.2 j v (by rw [← Array.getElem?_toList];exact e);refine af (wpAny_newList ?_ (by rw [al];exact Nat.le_of_lt (Nat.lt_trans h64 (by decide))));have g0:(h1.push (seqObj "list" acc.toList.toArray 0)).get? h1.objs.size=some (seqObj "list" acc.toList.toArray 0):=Heap.get?_push_size _ rfl;refine af (wpAny_holding (wpAny_call_entry (s:={ s with heap:=h1.push (seqObj "list" acc.toList.toArray 0),toks:=tk }) slot_list_sort ⟨_,g0,rfl⟩ entry_list_sort (list_sort_tree g0 hi (by rw [al];exact h64) λ out ns' b1 b2 b3=>⟨_,rfl,?_⟩) (args_list_sort _)));obtain ⟨e,he⟩:=sortedHeap_at (out:=out) g0;refine aG ⟨_,rfl,q _ _ _ out e ns' (λ b o eb=>?_) (Nat.le_of_lt hz) he b1 b2 b3⟩;have lb:=Heap.lt_size (k1 _ _ eb);show (sortedHeap (h1.push (seqObj "list" acc.toList.toArray 0)) h1.objs.size acc.toList out).get? b=some o;rw [sortedHeap_old (Nat.ne_of_lt lb) (by rw [Heap.size_push];exact Nat.lt_succ_of_lt lb)];exact aY _ (k1 _ _ eb)
end
end
theorem wq:OpR X (compareOp .LtE) (λ x y H Q=>∃ i j,x = .str i/\y = .str j/\Q (.bl (!decide (j.cps.toList < i.cps.toList))) H):=by
 intro pins s σ H x y v u Q I rx ry h;obtain ⟨i,j,rfl,rfl,q⟩:=h;obtain ⟨t,rfl⟩:=rx;obtain ⟨t',rfl⟩:=ry;exact P.le_str (bF I q rfl)
theorem Inv.frz{d:Addr}{kvs:List (Key × V)}(I:Inv X pins σ H s)(e:H d=some (.dK kvs)):∃ o,Inv X pins σ (upd H d (.frz o (.dK kvs))) s:=by
 have ob:=I.hok d _ e;obtain ⟨z,y,vs,r,o,es,ep,eo,c⟩:=id ob;refine ⟨o,I.write (x:=d) (e:=d) (o:=.frz o (.dK kvs)) (h':=s.heap) (t':=s.toks) (by rw [e];trivial) (.inl rfl) (λ b u _ q=>q) ⟨o,eo⟩ ⟨eo,z,y,vs,r,o,es,ep,eo,c⟩⟩
noncomputable def zif(ts:TS):TS:=λ D σ H=>ts { D with nx:=λ σ1 H1=>∃ d kvs,H1 d=some (.dK kvs)/\∀ o,D.nx σ1 (upd H1 d (.frz o (.dK kvs))) } σ H
theorem zhy{t:TS}(h:PS X st t):PS X st (zif t):=by
 intro pins s σ H D I hw;refine wpAny_mono (h pins s σ H _ I hw) (λ f s1 q=>?_) λ _ _ z=>z;cases f with
 | next=>
  obtain ⟨σ1,H1,I1,d,kvs,e,q⟩:=q;obtain ⟨o,I2⟩:=I1.frz e;exact ⟨σ1,_,I2,q o⟩
 | brk=>exact q
 | cont=>exact q
 | ret u=>exact q
noncomputable def d9(p d:Addr):HO:=.ext λ h=>h.IsValuesView p d
theorem zkb{p:Addr}(e:h.IsValuesView p d):ObjOk P w H h p (d9 p d):=
 ⟨e,(let ⟨o,eo,_⟩:=e;⟨o,eo⟩),λ h1 h2 ⟨o,eo,r⟩ k=>⟨o,k o eo,r⟩⟩
noncomputable def zjH(to:TE):TE:=λ σ H Q=>to σ H λ x H1=>∃ d kvs,x = .ref d/\Rd H1 d (.dK kvs)/\∀ p,H1 p=none->Q (.ref p) (upd H1 p (d9 p d))
theorem kX{o:Expr}(ho:PE X o to)(hbase:attributeBase o "values" X.env (eval o X.env)=eval o X.env:=by rfl)(hline:(apos.endLine == cpos.line)=true:=by rfl):PE X (.Call (.Attribute o "values" apos) [] [] cpos) (zjH to):=by
 intro pins s σ H Q I h;refine wpAny_Call_method0_late hbase hline (thn (ho pins s σ H _ I h) λ v s1 ⟨x,H1,I1,r1,d,kvs,ex,hd,q⟩=>?_);subst ex;cases r1;obtain ⟨z,hs,vs,rel,dd⟩:=fT I1.hok hd;refine ⟨"dict", "dict.values", F.plainAttrs_dict,F.slot_dict_values,F.type_dict_values,dd.typeIs,λ a e=>?_,Calls.callWith_builtin rfl (PySem.evalArgs_none ?_)⟩
 ·cases e;obtain ⟨o,es,ep,eo,c,_⟩:=dd;exact ⟨o,eo,c.2.1⟩
 ·refine call_meetsIn F.slot_dict_values dd.typeIs F.entry_dict_values (F.args_dict_values_1 _) (meets_dict_values (bY X.prog X.w) d hs) ⟨⟨vs,dd⟩,?_⟩;exact ⟨.ref s1.heap.objs.size,_,I1.laid (t':=s1.toks) (λ b u q=>aY _ q) (Nat.le_refl _) (zkb ⟨_,Heap.get?_push_size _ rfl,rfl,rfl⟩),rfl,q _ (I1.hok.fresh (Nat.le_refl _))⟩
theorem Inv.view{p:Addr}(I:Inv X pins σ H s)(e:H p=some (d9 p d)):s.heap.IsValuesView p d:=(I.hok p _ e).1
noncomputable def Itv(o:Obj)(d:Addr)(kvs:List (Key × V)):It:=⟨λ i H=>H d=some (.frz o (.dK kvs))/\i < kvs.length,λ i H x H'=>H'=H/\∃ k,kvs[i]?=some (k,x),λ i H=>H d=some (.frz o (.dK kvs))/\kvs.length<=i⟩
theorem Inv.dictAt{o:Obj}{d:Addr}{kvs:List (Key × V)}(I:Inv X pins σ H s)(e:H d=some (.frz o (.dK kvs))):∃ vs es ep,KV kvs vs/\o.data = .dict es ep/\s.heap.DictAt (bY X.prog X.w) d vs ep:=by
 obtain ⟨eo,z,y,vs,r,dd⟩:=I.hok d _ e;obtain ⟨ep,h⟩:=dd.dictAt;obtain ⟨o2,es,eo2,c,dt,q⟩:=id h;rw [eo] at eo2;cases eo2;exact ⟨vs,es,ep,r,dt,h⟩
theorem nG:∀ {kvs:List (Key × V)} {vs:List (Key × Value)},KV kvs vs->∀ {i:Nat} {k:Key} {x:V},kvs[i]?=some (k,x)->∃ u,vs[i]?=some (k,u)/\RelV x u
 | _,_,.nil,i,k,x,h=>by cases h
 | _,_,.cons (b:=b) hd tl,0,k,x,h=>by
  cases h;obtain ⟨h1,h2⟩:=hd;have h1:k=b.1:=h1;subst h1;exact ⟨b.2,rfl,h2⟩
 | _,_,.cons hd tl,j+1,k,x,h=>nG tl (i:=j) h
theorem zjW{o:Obj}{es:Array DictEntry}(hd:o.data = .dict es ep)(hn:n=kvs.length):fO P w K tg (Itv o d kvs) [it] it (λ i h=>h.IsValIter it d i n ep) where
 mem:=by simp
 obj:=λ i h st b hb=>by
  have e:b=it:=by simpa using hb
  subst e;obtain ⟨o,e,c,d⟩:=st;exact ⟨o,e,λ v z=>by rw [d] at z;cases z⟩
 keep:=λ i h h' st k=>st.at λ o e=>k it (by simp) o e
 item:=by
  intro X hP hw hK hc i pins s σ H E I hf st hg;subst hP hw hK hn;obtain ⟨hg,hi⟩:=hg;obtain ⟨vs,es',ep',r,dt,at'⟩:=I.dictAt hg;rw [hd] at dt;cases dt;obtain ⟨f0,f1,f2,f3,f4,f5⟩:=hf it (by simp);have ex:kvs[i]?=some (kvs[i].1,kvs[i].2):=aA hi;obtain ⟨u,hu,ru⟩:=nG r ex;rw [r.length] at st ⊢;refine wpAny_pyNext_values_item st at' hu λ h' st' sb=>?_;have I1:Inv X pins σ H { s with heap:=h' }:=I.turned (t':=s.toks) (λ b o hb e=>(sb.2 b hb).trans e) f0 f1 f3 f4 f5;obtain ⟨o1,e1,c1,d1⟩:=id st';exact ⟨u,rfl,jn (s:={ s with heap:=h' }) e1 c1 d1 (by decide) ⟨kvs[i].2,H,I1,ru,⟨rfl,kvs[i].1,ex⟩,st',λ b hb=>(hf b hb).1⟩⟩
 done:=by
  intro X hP hw hK hc i pins s σ H E I hf st hg;subst hP hw hK hn;obtain ⟨hg,hi⟩:=hg;obtain ⟨vs,es',ep',r,dt,at'⟩:=I.dictAt hg;rw [hd] at dt;cases dt;obtain ⟨f0,f1,f2,f3,f4,f5⟩:=hf it (by simp);rw [r.length] at st hi;exact wpAny_pyNext_values_end (I.ok.hd hc) st at' (List.getElem?_eq_none hi) λ h' eb=>⟨rfl,I.turned (t':=s.toks) (λ b o hb e=>eb b o hb e) f0 f1 f3 f4 f5⟩
 self:=λ _ _ _ _ _ st h=>wpAny_pyIter_valiter st h
noncomputable def zcX(tl:TE):TI:=λ σ H R=>tl σ H λ x H1=>∃ p d o kvs,x = .ref p/\H1 p=some (d9 p d)/\H1 d=some (.frz o (.dK kvs))/\R (Itv o d kvs) H1
theorem wD{l:Expr}(hl:PE X l tl):PI X tg l (zcX tl):=by
 intro pins s σ H R I h;refine thn (hl pins s σ H _ I h) λ v s1 ⟨x,H1,I1,r1,q1⟩=>?_;obtain ⟨p,d,o,kvs,rfl,hp,hd,q⟩:=q1;cases r1;obtain ⟨vs,es,ep,r,dt,at'⟩:=I1.dictAt hd;refine wpAny_pyIter_values (I1.view hp) at' ?_;refine ⟨s1.heap.objs.size,[s1.heap.objs.size],_,_,H1,rfl,I1.kept (t':=s1.toks) λ b o e=>aY _ e,zjW dt r.length.symm,⟨_,Heap.get?_push_size _ rfl,rfl,rfl⟩,λ b hb=>?_,q⟩;have e:b=s1.heap.objs.size:=by simpa using hb
 subst e;exact I1.fpOk (Nat.le_refl _) (I1.hok.fresh (Nat.le_refl _))
noncomputable def sN(K:W.Frag)(o:Obj)(d:Addr)(kvs:List (Key × V))(l:Addr):It:=
  ⟨λ i H=>H d=some (.frz o (.dK kvs))/\i < kvs.length/\∃ ys y,SqL K H l ys/\ys[i]?=some y,
   λ i H v H'=>∃ T,H T=none/\v = .ref T/\∀ ys,SqL K H l ys->∃ k x y,kvs[i]?=some (k,x)/\ys[i]?=some y/\H'=upd H T (.tup [x,y]),
   λ i H=>H d=some (.frz o (.dK kvs))/\∃ ys,SqL K H l ys/\(kvs.length<=i\/ys.length<=i)⟩
theorem ly(hk:∀ h h',S h->(∀ o,h.get? a=some o->h'.get? a=some o)->(∀ o,h.get? b=some o->h'.get? b=some o)->S h')(ha:a∉L)(hb:b∉L):Stays L S:=λ h h' hs k=>hk h h' hs (λ o e=>k a o ha e) (λ o e=>k b o hb e)
theorem zjY{kk:Nat}{o:Obj}{es:Array DictEntry}{l TI TO:Addr}(hd:o.data = .dict es ep)(hn:n=kvs.length)(D:ZAp z TI TO i1 i2)(nd:∀ b∈[d,l],b∉[z,TO,i1,i2])(nT:TI∉[z,TO,i1,i2]):
  fO P w K (.Tuple elts kk pos) (sN K o d kvs l) [z,TI,TO,i1,i2] z (λ i h=>IsZip h z TI TO .none/\IsPair h TI (.ref i1) (.ref i2)/\(∃ c e,IsPair h TO c e)/\h.IsValIter i1 d i n ep/\h.IsListIter i2 l i) where
 mem:=by simp
 obj:=λ i h st c hc=>by
  obtain ⟨h1,h2,⟨_,_,h3⟩,⟨o1,e1,c1,d1⟩,⟨o2,e2,c2,d2⟩⟩:=st;rcases in5 hc with rfl | rfl | rfl | rfl | rfl
  ·exact ⟨_,h1,λ v z=>by cases z⟩
  ·exact ⟨_,h2,λ v z=>by cases z⟩
  ·exact ⟨_,h3,λ v z=>by cases z⟩
  ·exact ⟨o1,e1,λ v z=>by rw [d1] at z;cases z⟩
  ·exact ⟨o2,e2,λ v z=>by rw [d2] at z;cases z⟩
 keep:=λ i h h' st kk=>by
  obtain ⟨h1,h2,⟨c,d,h3⟩,h4,h5⟩:=st;exact ⟨kk z (.head _) _ h1,kk TI (.tail _ (.head _)) _ h2,⟨c,d,kk TO (.tail _ (.tail _ (.head _))) _ h3⟩,h4.at λ o e=>kk i1 (.tail _ (.tail _ (.tail _ (.head _)))) o e,h5.at λ o e=>kk i2 (.tail _ (.tail _ (.tail _ (.tail _ (.head _))))) o e⟩
 item:=by
  intro X hP hw hK hc i pins s σ H E I hf st hg;subst hP hw hK hn;obtain ⟨hg,hi,ys,y,hq,hy⟩:=hg;obtain ⟨vs,es',ep',r,dt,at'⟩:=I.dictAt hg;rw [hd] at dt;cases dt;have ex:kvs[i]?=some (kvs[i].1,kvs[i].2):=aA hi;obtain ⟨u,hu,ru⟩:=nG r ex;obtain ⟨ib,rb,pb,_⟩:=I.list hq;obtain ⟨uy,huy,ruy⟩:=rb.get hy;obtain ⟨h1,h2,⟨ca,cb,h3⟩,h4,h5⟩:=id st;rw [r.length] at h4 ⊢;have hT:s.TypeIs (.ref z) "zip" := ⟨_,h1,rfl⟩
  obtain ⟨d1,d2,d3,d4⟩:=kK (nd d (.head _));obtain ⟨m1,m2,m3,m4⟩:=kK (nd l (.tail _ (.head _)));have st1:∀ k:Nat,Stays [z,TO,i2] (λ h=>h.IsValIter i1 d k vs.length ep/\h.DictAt (bY X.prog X.w) d vs ep):=λ k=>ly (λ h h' hs k1 k2=>⟨hs.1.at k1,hs.2.at' k2⟩) (gz D.a3 D.a5.symm D.a7) (gz d1 d2 d4);have st2:∀ k:Nat,Stays [z,TO,i1] (λ h=>h.IsListIter i2 l k/\h.IsList l ib.toArray):=λ k=>ly (λ h h' hs k1 k2=>⟨hs.1.at k1,hs.2.at k2⟩) (gz D.a4 D.a6.symm D.a7.symm) (gz m1 m2 m3);unfold pyNext;refine af (wpAny_attempt (wpAny_callSpecial?_slot (name:=Str.ofString "__next__") hT F.slot_zip_next (wpAny_call_entry F.slot_zip_next hT F.entry_zip_next (zkq D h1 h2 h3 ⟨h4,at'⟩ ⟨h5,pb.isList⟩ (st1 i) (st1 (i+1)) (st2 i) (st2 (i+1)) (x:=u) (y:=uy) (λ A E s Q p q=>?_) (λ A E s Q p q=>?_) λ h' z' to' s1 s2 tp sz kp=>?_) (F.args_zip_next_1 _))))
  ·exact vY p.1 p.2 hu λ h' b1 b2=>q h' ⟨b1,p.2.at' λ o e=>by rw [b2.2 d d3];exact e⟩ b2
  ·exact wpAny_nextOf_list_item p.1 p.2 (x:=uy) (by simpa using huy) λ h' b1 b2=>q h' ⟨b1,p.2.at λ o e=>by rw [b2.2 l m4];exact e⟩ b2
  refine aG ⟨_,rfl,wpAny_letOwnedTupleGo_zip z' λ h'' z'' sb=>?_⟩;have zl:=Heap.lt_size h1;have I1:Inv X pins σ H { s with heap:=h'' }:=I.turnedL (t':=s.toks) (ch:=[z,TO,i1,i2]) (λ c o hc' e=>by
   have:=kp c o hc' e;rw [sb.2 c (λ y=>hc' (y ▸ .head _))];exact this) λ c hc'=>hf c (lz hc')
  have hTn:H s.heap.objs.size=none:=I.hok.fresh (Nat.le_refl _);have nzT:s.heap.objs.size≠z:=Nat.ne_of_gt zl;have tup2:IsTup h'' s.heap.objs.size #[u,uy]:=by
   have:IsPair h'' s.heap.objs.size u uy:=by show h''.get? _=_;rw [sb.2 _ nzT];exact tp
   exact ⟨_,this,rfl,_,rfl⟩
  have ltT:∀ {c:Addr} {ob:Obj},s.heap.get? c=some ob->c≠s.heap.objs.size:=λ e=>Nat.ne_of_lt (Heap.lt_size e);have I2:Inv X pins σ (upd H s.heap.objs.size (.tup [kvs[i].2,y])) { s with heap:=h'' }:=by
   refine I1.track hTn ?_ (λ e=>?_) (λ nm c e q=>?_) (λ p hp e=>?_) ?_
   ·cases q:X.s₀.heap.get? s.heap.objs.size with
    | none=>rfl
    | some ob=>exact absurd (Nat.lt_of_lt_of_le (Heap.lt_size q) I.sz) (Nat.lt_irrefl _)
   ·exact absurd I.lt (by rw [e];exact Nat.lt_irrefl _)
   ·obtain ⟨v,ob,ho,_⟩:=I.cell nm c e;exact ltT ho q
   ·exact ltT (I.pin p hp).1 e
   ·exact ⟨by show 2<=sizeLine;decide,[u,uy],.cons ru (.cons ruy .nil),tup2⟩
  have kz:∀ c o,c≠z->h'.get? c=some o->h''.get? c=some o:=λ c o hc e=>by rw [sb.2 c hc];exact e
  obtain ⟨o1,e1,_⟩:=id h4;obtain ⟨o2,e2,_⟩:=id h5;refine ⟨.ref s.heap.objs.size,_,I2,rfl,⟨_,hTn,rfl,λ ys' q'=>?_⟩,⟨z'',kz _ _ D.a1 (kp TI _ ?_ h2),⟨_,_,kz _ _ D.a2 to'⟩,s1.1.at λ o e=>kz _ o D.a3 e,s2.1.at λ o e=>kz _ o D.a4 e⟩,λ c hc'=>?_⟩
  ·rw [I.list_inj q' hq];exact ⟨_,_,y,ex,hy,rfl⟩
  ·exact nT
  ·have:c≠s.heap.objs.size:=by
    rcases in5 hc' with rfl | rfl | rfl | rfl | rfl
    ·exact ltT h1
    ·exact ltT h2
    ·exact ltT h3
    ·exact ltT e1
    ·exact ltT e2
   rw [ag this];exact (hf c hc').1
 done:=by
  intro X hP hw hK hc i pins s σ H E I hf st hg;subst hP hw hK hn;obtain ⟨hg,ys,hq,hend⟩:=hg;obtain ⟨vs,es',ep',r,dt,at'⟩:=I.dictAt hg;rw [hd] at dt;cases dt;obtain ⟨ib,rb,pb,_⟩:=I.list hq;obtain ⟨h1,h2,⟨ca,cb,h3⟩,h4,h5⟩:=id st;rw [r.length] at h4 hend;have hT:s.TypeIs (.ref z) "zip" := ⟨_,h1,rfl⟩
  obtain ⟨d1,d2,d3,d4⟩:=kK (nd d (.head _));obtain ⟨m1,m2,m3,m4⟩:=kK (nd l (.tail _ (.head _)));have st1:Stays [z,TO,i2] (λ h=>h.IsValIter i1 d i vs.length ep/\h.DictAt (bY X.prog X.w) d vs ep):=ly (λ h h' hs k1 k2=>⟨hs.1.at k1,hs.2.at' k2⟩) (gz D.a3 D.a5.symm D.a7) (gz d1 d2 d4);have st2:Stays [z,TO,i1] (λ h=>h.IsListIter i2 l i/\h.IsList l ib.toArray):=ly (λ h h' hs k1 k2=>⟨hs.1.at k1,hs.2.at k2⟩) (gz D.a4 D.a6.symm D.a7.symm) (gz m1 m2 m3);have lb:=rb.length;unfold pyNext;refine af (wpAny_attempt (wpAny_callSpecial?_slot (name:=Str.ofString "__next__") hT F.slot_zip_next (wpAny_call_entry F.slot_zip_next hT F.entry_zip_next (zkp D h1 h2 h3 ⟨h4,at'⟩ ⟨h5,pb.isList⟩ st1 st2 ?_ (I.ok.hd hc) λ h' e kp he=>?_) (F.args_zip_next_1 _))))
  ·by_cases c:vs.length<=i
   ·exact .inr λ A' E s Q hh p q=>zfn hh p.1 p.2 (List.getElem?_eq_none c) q
   ·have ei:vs[i]?=some (vs[i].1,vs[i].2):=aA (by omega);refine .inl ⟨⟨vs[i].2,λ A E s Q p q=>vY p.1 p.2 ei λ h' _ b2=>q h' b2⟩,λ A' E s Q hh p q=>wpAny_nextOf_list_end hh p.1 p.2 (by simp;omega) q⟩
  ·obtain ⟨o,ho,hco⟩:=he;refine af (wpAny_isInstance (T := "StopIteration") (b:=true) ⟨o,ho,hco⟩ isSubtype_stop (aG ⟨rfl,I.turnedL (t':=s.toks) (ch:=[z,TO,i1,i2]) (λ c o hc' e=>kp c o hc' e) λ c hc'=>hf c (lz hc')⟩))
 self:=λ _ _ _ _ _ st h=>wpAny_pyIter_zip st.1 h
theorem zko(n:Nat):ZAp (n+4) (n+2) (n+3) n (n+1):=by
 constructor
 ·show (n+2:Nat)≠n+4;omega
 ·show (n+3:Nat)≠n+4;omega
 ·show (n:Nat)≠n+4;omega
 ·show (n+1:Nat)≠n+4;omega
 ·show (n+3:Nat)≠n;omega
 ·show (n+3:Nat)≠n+1;omega
 ·show (n:Nat)≠n+1;omega
theorem yN{b:Nat}(h:b < n):b∉([n+4,n+3,n,n+1]:List Nat):=by
 simp only [al_mc,List.not_mem_nil,or_false,not_or];omega
theorem zkm(n:Nat):n+2∉([n+4,n+3,n,n+1]:List Nat):=by
 simp only [al_mc,List.not_mem_nil,or_false,not_or];omega
theorem zkn{b:Nat}(h:b∈([n+4,n+2,n+3,n,n+1]:List Nat)):n<=b:=by
 simp only [al_mc,List.not_mem_nil,or_false] at h;omega
noncomputable def zc0(K:W.Frag)(ta:TA):TI:=λ σ H R=>ta σ H λ vs H1=>∃ p d o kvs l ys,vs=[.ref p,.ref l]/\H1 p=some (d9 p d)/\H1 d=some (.frz o (.dK kvs))/\SqL K H1 l ys/\R (sN K o d kvs l) H1
theorem wF(K:W.Frag){k:Nat}{a b:Expr}{ta:TA}(hg:Gl X "zip")(hm:X.mg "zip" = none)(ha:PA X [a,b] ta)(hK:X.K=K:=by rfl)(hs:starEach [a,b] X.env=[(false,eval a X.env),(false,eval b X.env)]:=by rfl)(hs2:starEach [b] X.env=[(false,eval b X.env)]:=by rfl):
  PI X (.Tuple elts k tpos) (.Call (.Name "zip" p) [a,b] [] pos) (zc0 K ta):=by
 subst hK;intro pins s σ H R I h;refine Call_ (fb I hg hm PyProof.Rows.Boot.«zip» (PyProof.Rows.callWith_type1 (thn (ha pos pins s σ H _ I h) λ us s1 ⟨vs,H1,I1,r1,q1⟩=>?_) (by rw [hs,hs2]) (by rw [hs2];rfl)));obtain ⟨pv,d,o,kvs,l,ys,e,hp,hd,hl,q⟩:=q1;subst e;obtain ⟨u1,u2,rfl,e1,e2⟩:=r1.two;cases e1;cases e2;obtain ⟨ws,es,ep,r,dt,at'⟩:=I1.dictAt hd;obtain ⟨ib,rb,pb,_⟩:=I1.list hl;refine callType_newIn F.called_zip (by decide) (F.typeCall_zip_2 _ _) (F.newCall_zip_2 _ _) (λ obj=>F.args_object_init_3 obj _ _) F.entry_zip_new (zkr (kn:=bY X.prog X.w) pv d l ws ep ib.toArray) ⟨I1.view hp,at',pb.isList,λ h' kp v1 v2 v3 v4 v5=>⟨⟨_,v5,rfl⟩,?_⟩⟩;have dlt:d < s1.heap.objs.size:=(I1.hok d _ hd).lt;have llt:l < s1.heap.objs.size:=by obtain ⟨_,e,_⟩:=pb.isList;exact Heap.lt_size e
 refine wpAny_pyIter_zip v5 ?_;refine ⟨_,[s1.heap.objs.size+4,s1.heap.objs.size+2,s1.heap.objs.size+3,s1.heap.objs.size,s1.heap.objs.size+1],_,_,H1,rfl,I1.kept (t':=s1.toks) kp,zjY dt r.length.symm (zko _) (λ b hb=>?_) (zkm _),⟨v5,v3,⟨_,_,v4⟩,v1,v2⟩,λ b hb=>?_,q⟩
 ·simp only [al_mc,List.not_mem_nil,or_false] at hb;rcases hb with rfl | rfl
  ·exact yN dlt
  ·exact yN llt
 ·have hb':s1.heap.objs.size<=b:=zkn hb;exact I1.fpOk hb' (I1.hok.fresh hb')
section
open PySem.W
theorem m6{fr:List (Option Nat)}{Q:VK}(Pv:Nat->List V->Hp->Prop)(h0:Pv 0 [] H)(hl:∀ i acc H,i<=n->Pv i acc H->acc.length<=i/\(i < n->J.go i H)/\(n<=i->J.stop i H))(hz:n<=sizeLine)(hs:∀ i x acc H H',i < n->Pv i acc H->J.yld i H x H'->g x (stC fr σ) H' λ σ2 H2=>Wk (stC fr σ) σ2/\tc σ2 H2 λ b H3=>
   if b=true then te σ2 H3 λ y H4=>∃ m',m' < n - i/\CW n Pv (i+1) m' (acc++[y]) H4 else ∃ m',m' < n - i/\CW n Pv (i+1) m' acc H3)(hd:∀ acc H,Pv n acc H->∀ p,H p=none->Q (.ref p) (upd H p (.lst acc))):sy fr J g tc te σ H Q:=by
 refine ⟨CW n Pv,⟨n,by simp,Nat.zero_le _,h0⟩,?_⟩;rintro i m acc H ⟨rfl,hi,p⟩;obtain ⟨q1,q2,q3⟩:=hl i acc H hi p;by_cases hlt:i < n
 ·exact .inr ⟨q2 hlt,by omega,λ x H' y=>hs i x acc H H' hlt p y⟩
 ·have e:i=n:=by omega
  subst e;exact .inl ⟨q3 (Nat.le_refl _),hd acc H p⟩
theorem uR(Pv:Nat->St->Hp->Prop)(h0:Pv 0 σ H)(hl:∀ i σ H,i<=n->Pv i σ H->(i < n->J.go i H)/\(n<=i->J.stop i H))(hs:∀ i x σ H H',i < n->Pv i σ H->J.yld i H x H'->g x σ H' λ σ2 H2=>tb { D with nx:=Pv (i+1),ct:=Pv (i+1),bk:=D.nx } σ2 H2)(hd:∀ σ H,Pv n σ H->D.nx σ H):sK J g tb D σ H:=by
 refine ⟨λ i m σ H=>m=n - i/\i<=n/\Pv i σ H,⟨n,by simp,Nat.zero_le _,h0⟩,?_⟩;rintro i m σ H ⟨rfl,hi,p⟩;obtain ⟨q2,q3⟩:=hl i σ H hi p;by_cases hlt:i < n
 ·exact .inr ⟨q2 hlt,Pv (i+1),λ σ' H' h=>⟨n - (i+1),by omega,rfl,hlt,h⟩,λ x H' y=>hs i x σ H H' hlt p y⟩
 ·have e:i=n:=by omega
  subst e;exact .inl ⟨q3 (Nat.le_refl _),hd σ H p⟩
noncomputable def jZ(p:Addr)(n:Nat):HO:=.ext λ h=>∃ o es ep t,h.get? p=some o/\o.ExactSet/\o.data = .set es ep t/\t.fits es.size=true/\es.size=n
theorem za4(K:W.Frag)(hc:X.calm=true)(hK:X.K=K:=by rfl):CallR X (.type "set") (λ xs H Q=>∃ (l:Addr) (zs:List Str),xs=[.ref l]/\SqL K H l (zs.map V.str)/\zs.length<=100/\∀ p,H p=none->Q (.ref p) (upd H p (jZ p (met [] zs).length))):=by
 subst hK;intro pins s σ H xs us Q I r h;obtain ⟨l,zs,rfl,hl,hz,q⟩:=h;obtain ⟨u,rfl,ru⟩:=d7 r;cases ru;obtain ⟨its,rv,pl,_⟩:=I.list hl;have le:=rv.length;rw [aj] at le;refine zi5 (kn:=strKind X.prog X.w) (ks:=zs) (I.ok.hd hc) pl.isList (by rw [a9];exact le) (λ i v hv=>?_) (by rw [a9];unfold scanBound;omega) λ h' tk hS kp=>?_
 ·have hv':its[i]?=some v:=by simpa using hv
  have hi:i < zs.length:=by rw [le];exact (al_gs.mp hv').1
  obtain ⟨u,hu,ru⟩:=rv.get (i:=i) (x:=.str zs[i]) (by rw [aH,aA hi];rfl);rw [hv'] at hu;cases hu;obtain ⟨t,rfl⟩:=ru;exact ⟨zs[i],aA hi,strKind_is _ _ _ _,rfl⟩
 ·obtain ⟨o,es,ep,t,eo,ex,dd,_,_,_,ft,en⟩:=hS;exact ⟨.ref s.heap.objs.size,_,I.laid (o:=jZ s.heap.objs.size (met [] zs).length) (t':=tk) (λ b u q=>kp b u (Heap.lt_size q) q) (Nat.le_refl _) ⟨⟨o,es,ep,t,eo,ex,dd,ft,en⟩,⟨o,eo⟩,λ h1 h2 ⟨o,es,ep,t,eo,r⟩ k=>⟨o,es,ep,t,k o eo,r⟩⟩,rfl,q _ (I.hok.fresh (Nat.le_refl _))⟩
theorem zaV:CallR X (.builtin "len") (λ xs H Q=>∃ p n,xs=[.ref p]/\H p=some (jZ p n)/\n<=1000/\Q (.int n) H):=by
 intro pins s σ H xs us Q I r h;obtain ⟨p,n,rfl,hp,hn,q⟩:=h;obtain ⟨u,rfl,ru⟩:=d7 r;cases ru;obtain ⟨⟨o,es,ep,t,eo,co,dd,ft,en⟩,_⟩:=I.hok p _ hp;subst en;exact call_len_set eo co dd ft (by omega) ⟨.int es.size,H,(I.tok _).tok _,⟨_,rfl⟩,q⟩
theorem zaU:CallR X (.builtin "len") (λ xs H Q=>∃ a kvs,xs=[V.ref a]/\Rd H a (.dK kvs)/\Q (.int kvs.length) H):=by
 intro pins s σ H xs us Q I r h;obtain ⟨a,kvs,rfl,ha,q⟩:=h;obtain ⟨u,rfl,ru⟩:=d7 r;cases ru;exact um I ha λ t s' I'=>⟨.int kvs.length,H,I',⟨t,rfl⟩,q⟩
theorem wB:∀ {l l':List Int},l.Perm l'->l.Pairwise (·<=·)->l'.Pairwise (·<=·)->l=l'
 | [],l',p,_,_=>(List.nil_perm.mp p).symm
 | a::r,[],p,_,_=>absurd (List.perm_nil.mp p) (by simp)
 | a::r,b::r',p,h,h'=>by
  obtain ⟨h1,h2⟩:=List.pairwise_cons.mp h;obtain ⟨h1',h2'⟩:=List.pairwise_cons.mp h';have e:a=b:=by
   rcases al_mc.mp (p.mem_iff.mp bB) with e | e
   ·exact e
   ·rcases al_mc.mp (p.mem_iff.mpr (bB (a:=b) (l:=r'))) with e2 | e2
    ·exact e2.symm
    ·exact Int.le_antisymm (h1 b e2) (h1' a e)
  subst e;rw [wB ((List.perm_cons a).mp p) h2 h2']
theorem ua(hc:X.calm=true):CallR X (.builtin "sorted") (λ xs H Q=>∃ (d:Addr) (ns:List Int) (ws:List V),xs=[.ref d]/\H d=some (.dK ((ns.zip ws).map λ q=>(.inl (some q.1),q.2)))/\ns.length=ws.length/\ns.Pairwise (·<=·)/\ns.length < 64/\∀ l,H l=none->Q (.ref l) (upd H l (.lst (ns.map V.int)))):=by
 intro pins s σ H xs us Q I r h;obtain ⟨d,ns,ws,rfl,hd,hl,hp,h64,q⟩:=h;obtain ⟨u,rfl,ru⟩:=d7 r;cases ru;obtain ⟨z,hs,vs,rel,dd⟩:=gR I.hok hd;obtain ⟨ep,hat⟩:=dd.dictAt;have hvl:vs.length=ns.length:=by rw [← rel.length,aj,List.length_zip];omega
 refine zjf (ns:=ns) (kdl_dict (knd:=bY X.prog X.w) (kvs:=vs) (ep:=ep) hs) (I.ok.hd hc) hat (by rw [hvl];exact h64) (λ us hu hj=>?_) λ a h' tk out e ns' kp ha ga ho pm pw=>?_
 ·refine kA (rY (by rw [aj,hu,hvl]) λ j x v h1 h2=>?_);obtain ⟨k,y,e1,e2⟩:=hj j v h2;have hj':j < ns.length:=by rw [← hvl];exact (al_gs.mp e1).1
  rw [aH,aA hj'] at h1;cases h1;have ek:=vn rel j;rw [e1,aH,List.getElem?_zip_eq_some (z:=(ns[j],ws[j]'(by omega))) |>.mpr ⟨aA hj',aA _⟩] at ek;have ek:(Sum.inl (some ns[j]):Key)=k:=Option.some.inj ek;have:=w5 e2;rw [← ek] at this;exact this
 ·have en:ns'=ns:=wB pm pw hp;subst en;exact ⟨.ref a,_,I.laid (o:=.lst (ns'.map V.int)) (t':=tk) kp ha ⟨by rw [aj];exact Nat.le_of_lt (Nat.lt_trans h64 (by decide)),out.toList,e,rZ ho,ga⟩,rfl,q a (I.hok.fresh ha)⟩
end
theorem PE.alt{t1 t2:TE}(h1:PE X e t1)(h2:PE X e t2):PE X e (λ σ H Q=>t1 σ H Q\/t2 σ H Q):=λ pins s σ H Q I h=>h.elim (h1 pins s σ H Q I) (h2 pins s σ H Q I)
theorem OpR.alt{o:Value->Value->Sem Value}{r1 r2:R2}(h1:OpR X o r1)(h2:OpR X o r2):OpR X o (λ x y H Q=>r1 x y H Q\/r2 x y H Q):=λ pins s σ H x y v u Q I rx ry h=>h.elim (h1 pins s σ H x y v u Q I rx ry) (h2 pins s σ H x y v u Q I rx ry)
theorem ve{D:Addr}{fs:List (Str × V)}{b:Bool}(h:H a=some (.ins C dx fs))(cl:Cls K C)(y:W.findIn K (.ref C) "__class__" = some (some (.builtin "object.__class__"))/\W.mroIn K C (.type "object")=some true)(g:W.specialIn K (.builtin "object.__class__") "__get__" = some (some (.builtin "getset_descriptor.__get__"))/\W.takesIn K (.builtin "object.__class__")=some true)(e:W.kitOne K (.ref C) (.ref D)=some b):gM K H (.ref a) (.ref D) b:=
 ⟨.ref D,rfl,λ _ r=>r,.inl ⟨.ref C,.ins h cl y.1 g.1 g.2 y.2,e⟩⟩
theorem vD(a b:Nat):decide (([a]:List Nat) < [b])=decide (a < b):=by
 rw [Bool.eq_iff_iff];simp [List.cons_lt_cons_iff]
section
variable {k:Nat} {f:Addr} {sl:Array (Option Value)} {kV dc:Value}
noncomputable def Bs(P:Program)(w:World)(base:Heap):Prop:=True
noncomputable def FB(K:W.Frag)(x qual:Str)(st:Stmt)(ps:List Str)(f:Addr):Prop:=∃ fd,Fun K x qual st f fd/\Binds K fd ps []
noncomputable def DD(K:W.Frag)(mg:Str->Option Value)(x:Str)(st:Stmt)(ps:List Str):Prop:=∃ f,mg x=some (.ref f)/\FB K x x st ps f
noncomputable def MM(K:W.Frag)(C:Addr)(x qual:Str)(st:Stmt)(ps:List Str):Prop:=∃ f,iH K C x f/\FB K x qual st ps f
noncomputable def II(K:W.Frag)(C:Addr)(qual:Str)(st:Stmt)(ps:List Str):Prop:=∃ f,Mk K C f/\FB K "__init__" qual st ps f
theorem zbM(l:K.lookup f=some ⟨oc,od,.func (W.fnOf x qual (dG st) (dh st) (ax st) .none kV dc pm an cd ct),sl⟩)(c:W.codeIn K cd qual=true)(k:W.keepIn K (.ref f)=true)(h:∀ (kV doc pm:Value) (an:Option Addr) (cdv ct:Value) (us:List Value),us.length=ps.length->bindArgs (W.fnOf x qual (dG st) (dh st) (ax st) .none kV doc pm an cdv ct) ⟨us,[]⟩=pure (ps.zip us)):FB K x qual st ps f:=
 ⟨_,ni l c k,(ni l c k).binds h⟩
theorem uZ{p:List Value->Prop}(h:p []):∀ us:List Value,us.length=0->p us
 | [],_=>h
theorem uC{p:List Value->Prop}(h:∀ a us,us.length=n->p (a::us)):∀ us:List Value,us.length=n+1->p us
 | a::us,e=>h a us (Nat.succ.inj e)
noncomputable def bA(x qual:Str)(st:Stmt)(ps:List Str)(us:List Value):Prop:=∀ (kV doc pm:Value) (an:Option Addr) (cdv ct:Value),bindArgs (W.fnOf x qual (dG st) (dh st) (ax st) .none kV doc pm an cdv ct) ⟨us,[]⟩=pure (ps.zip us)
theorem fbU(l:K.lookup f=some ⟨oc,od,.func (W.fnOf x qual (dG st) (dh st) (ax st) .none kV dc pm an cd ct),sl⟩)(c:W.codeIn K cd qual=true)(k:W.keepIn K (.ref f)=true)(h:∀ us:List Value,us.length=ps.length->bA x qual st ps us):FB K x qual st ps f:=
 zbM l c k λ kV doc pm an cdv ct us e=>h us e kV doc pm an cdv ct
theorem fb0(l:K.lookup f=some ⟨oc,od,.func (W.fnOf x qual (dG st) (dh st) (ax st) .none kV dc pm an cd ct),sl⟩)(c:W.codeIn K cd qual=true)(k:W.keepIn K (.ref f)=true)(h:bA x qual st [] []):FB K x qual st [] f:=
 fbU l c k (uZ (p:=λ t=>bA x qual st [] (t)) (h))
theorem fb1(l:K.lookup f=some ⟨oc,od,.func (W.fnOf x qual (dG st) (dh st) (ax st) .none kV dc pm an cd ct),sl⟩)(c:W.codeIn K cd qual=true)(k:W.keepIn K (.ref f)=true)(h:∀ u0,bA x qual st [p0] [u0]):FB K x qual st [p0] f:=
 fbU l c k (uC (p:=λ t=>bA x qual st [p0] (t)) λ u0=>uZ (p:=λ t=>bA x qual st [p0] (u0::t)) (h u0))
theorem fb2(l:K.lookup f=some ⟨oc,od,.func (W.fnOf x qual (dG st) (dh st) (ax st) .none kV dc pm an cd ct),sl⟩)(c:W.codeIn K cd qual=true)(k:W.keepIn K (.ref f)=true)(h:∀ u0 u1,bA x qual st [p0,p1] [u0,u1]):FB K x qual st [p0,p1] f:=
 fbU l c k (uC (p:=λ t=>bA x qual st [p0,p1] (t)) λ u0=>uC (p:=λ t=>bA x qual st [p0,p1] (u0::t)) λ u1=>uZ (p:=λ t=>bA x qual st [p0,p1] (u0::u1::t)) (h u0 u1))
theorem fb3{p2:Str}(l:K.lookup f=some ⟨oc,od,.func (W.fnOf x qual (dG st) (dh st) (ax st) .none kV dc pm an cd ct),sl⟩)(c:W.codeIn K cd qual=true)(k:W.keepIn K (.ref f)=true)(h:∀ u0 u1 u2,bA x qual st [p0,p1,p2] [u0,u1,u2]):FB K x qual st [p0,p1,p2] f:=
 fbU l c k (uC (p:=λ t=>bA x qual st [p0,p1,p2] (t)) λ u0=>uC (p:=λ t=>bA x qual st [p0,p1,p2] (u0::t)) λ u1=>uC (p:=λ t=>bA x qual st [p0,p1,p2] (u0::u1::t)) λ u2=>uZ (p:=λ t=>bA x qual st [p0,p1,p2] (u0::u1::u2::t)) (h u0 u1 u2))
theorem fb4{p2 p3:Str}(l:K.lookup f=some ⟨oc,od,.func (W.fnOf x qual (dG st) (dh st) (ax st) .none kV dc pm an cd ct),sl⟩)(c:W.codeIn K cd qual=true)(k:W.keepIn K (.ref f)=true)(h:∀ u0 u1 u2 u3,bA x qual st [p0,p1,p2,p3] [u0,u1,u2,u3]):FB K x qual st [p0,p1,p2,p3] f:=
 fbU l c k (uC (p:=λ t=>bA x qual st [p0,p1,p2,p3] (t)) λ u0=>uC (p:=λ t=>bA x qual st [p0,p1,p2,p3] (u0::t)) λ u1=>uC (p:=λ t=>bA x qual st [p0,p1,p2,p3] (u0::u1::t)) λ u2=>uC (p:=λ t=>bA x qual st [p0,p1,p2,p3] (u0::u1::u2::t)) λ u3=>uZ (p:=λ t=>bA x qual st [p0,p1,p2,p3] (u0::u1::u2::u3::t)) (h u0 u1 u2 u3))
theorem fb5{p2 p3 p4:Str}(l:K.lookup f=some ⟨oc,od,.func (W.fnOf x qual (dG st) (dh st) (ax st) .none kV dc pm an cd ct),sl⟩)(c:W.codeIn K cd qual=true)(k:W.keepIn K (.ref f)=true)(h:∀ u0 u1 u2 u3 u4,bA x qual st [p0,p1,p2,p3,p4] [u0,u1,u2,u3,u4]):FB K x qual st [p0,p1,p2,p3,p4] f:=
 fbU l c k (uC (p:=λ t=>bA x qual st [p0,p1,p2,p3,p4] (t)) λ u0=>uC (p:=λ t=>bA x qual st [p0,p1,p2,p3,p4] (u0::t)) λ u1=>uC (p:=λ t=>bA x qual st [p0,p1,p2,p3,p4] (u0::u1::t)) λ u2=>uC (p:=λ t=>bA x qual st [p0,p1,p2,p3,p4] (u0::u1::u2::t)) λ u3=>uC (p:=λ t=>bA x qual st [p0,p1,p2,p3,p4] (u0::u1::u2::u3::t)) λ u4=>uZ (p:=λ t=>bA x qual st [p0,p1,p2,p3,p4] (u0::u1::u2::u3::u4::t)) (h u0 u1 u2 u3 u4))
theorem DD.cal(D:DD K mg x st ps)(b:Bs P w base)(h:∀ f fd,Fun K x x st f fd->FnOk P w K mg base CX k f fd ps sp):Cal P w K mg base CX k x ps sp:=
 let ⟨f,m,fd,F,b⟩:=D;⟨f,fd,h f fd F,m,F.kp,b⟩
theorem MM.cal(D:MM K C x qual st ps)(b:Bs P w base)(h:∀ f fd,Fun K x qual st f fd->FnOk P w K mg base CX k f fd ps sp):bn P w K mg base CX k C x ps sp:=
 let ⟨f,m,fd,F,b⟩:=D;⟨f,fd,h f fd F,m,b⟩
theorem II.cal(D:II K C qual st ps)(b:Bs P w base)(h:∀ f fd,Fun K "__init__" qual st f fd->FnOk P w K mg base CX k f fd ps sp):fM P w K mg base CX k C ps sp:=
 let ⟨f,m,fd,F,b⟩:=D;⟨f,fd,h f fd F,m,b⟩
end
theorem uE(env:Env):∀ xs ys,execs (xs++ys) env=(execs xs env >>= λ f=>match f with | .next=>execs ys env | f=>pure f)
 | [],ys=>(pure_bind _ _).symm
 | x::r,ys=>by
  rw [List.cons_append,execs_cons,execs_cons,bind_assoc]
  congr;funext f
  cases f <;> simp [uE env r ys]
theorem qU{t u:TS}(h:∀ N:St->Hp->Prop,(∀ σ' H',u D σ' H'->N σ' H')->t { D with nx:=N } σ H):ip t u D σ H:=h _ λ _ _ x=>x
section
variable {xs:List Stmt} {t u:TS}
inductive yo (t u:TS):eO->St->Hp->Prop
 | mk {D:eO} {σ:St} {H:Hp} (M:St->Hp->Prop) (h:t { D with nx:=M } σ H) (k:∀ σ' H',M σ' H'->u D σ' H'):yo t u D σ H
theorem zhD(n:Nat)(h1:PSs X (xs.take n) t)(h2:PSs X (xs.drop n) u):PSs X xs (yo t u):=by
 intro pins s σ H D I h;obtain ⟨M,h,k⟩:=h;have e:execs xs X.env=execs (xs.take n++xs.drop n) X.env:=by rw [List.take_append_drop]
 rw [e,uE];refine af (thn (h1 pins s σ H { D with nx:=M } I h) λ f s1 q=>?_);cases f with
 | next=>
  obtain ⟨σ',H',I',q⟩:=q;exact h2 pins s1 σ' H' D I' (k _ _ q)
 | ret v=>exact aG q
 | brk=>exact aG q
 | cont=>exact aG q
end
end L2
set_option maxHeartbeats 8000000
namespace T1
open PySem L2
local macro_rules | `(tactic| walk_at "sc")=>`(tactic| exact ⟨rfl,rfl,rfl,by decide +kernel,rfl,by decide +kernel,by decide +kernel⟩)
variable {b e g i j k n:Nat} {l living:List Int} {M coming m:Int} {C a a' c d dx f ll pd r tb:Addr} {P:Program} {w:World} {K:W.Frag} {mg:Str->Option Value} {base:Heap} {fd:FuncData} {H H' H1 H2 H3 H4:Hp} {Q Q':VK} {x:V} {ns ws:List Str} {α κ:Type} {L as fp:List Addr} {vs zs:List V} {o:HO} {es:Array DictEntry} {A B X:List Nat} {E E':XK} {sp:Sp} {σ:St} {wa wb:List (Addr × List V)} {ksl:Array (Option Value)}
noncomputable abbrev OI:=Option Int
variable {xs ys:List OI} {v:OI}
noncomputable def aL(n:Nat):Nat:=if h:n=0 then 0 else aL (n / 2)+1
termination_by n
decreasing_by omega
theorem vX:aL 0=0:=by rw [aL];simp
theorem zfk(h:0 < n):aL n=aL (n / 2)+1:=by
 rw [aL,dif_neg (by omega)]
noncomputable def bV(d:Int):Int:=if 0<=d then 2 * d else -2 * d - 1
theorem nc(d:Int):0<=bV d:=by unfold bV;split <;> omega
structure Ty where
 length:Nat
 last:OI
 runs:Nat
 book:List OI
 none:Bool
 least:OI
 greatest:OI
 widest:Int
variable {y:Ty}
noncomputable def fZ(m:OI)(i:Int):Int:=match m with | .none=>i | .some k=>if i < k then i else k
noncomputable def eE(m:OI)(i:Int):Int:=match m with | .none=>i | .some k=>if k < i then i else k
noncomputable def Ty.add(t:Ty)(v:OI):Ty where
 length:=t.length+1
 last:=v
 runs:=if t.length=0\/v≠t.last then t.runs+1 else t.runs
 book:=if v∈t.book then t.book else t.book++[v]
 none:=if v = .none then true else t.none
 least:=match v with | .none=>t.least | .some i=>some (fZ t.least i)
 greatest:=match v with | .none=>t.greatest | .some i=>some (eE t.greatest i)
 widest:=match v with
  | .none=>t.widest
  | .some i=>if 0 < t.length/\t.none=false then (if bV (i - t.last.getD 0) > t.widest then bV (i - t.last.getD 0) else t.widest) else t.widest
noncomputable def Ty.zero:Ty:=⟨0,.none,0,[],false,.none,.none,0⟩
noncomputable def av(xs:List OI):Ty:=xs.foldl Ty.add Ty.zero
theorem i7:av []=Ty.zero:=rfl
theorem yC(xs:List OI)(v:OI):av (xs++[v])=(av xs).add v:=by
 unfold av;rw [List.foldl_append];rfl
noncomputable def at'(xs:List OI)(k:Nat):OI:=xs.getD k .none
theorem at'_of(h:xs[k]?=some v):at' xs k=v:=by
 unfold at';simp [List.getD,h]
theorem cN(h:n < xs.length):xs.take (n+1)=xs.take n++[at' xs n]:=by
 rw [List.take_add_one,aA h,at'_of (aA h)];rfl
theorem gp(h:n < xs.length):av (xs.take (n+1))=(av (xs.take n)).add (at' xs n):=by
 rw [cN h,yC]
theorem yA(xs:List OI):(av xs).length=xs.length:=by
 have key:∀ (n:Nat),n<=xs.length->(av (xs.take n)).length=n:=by
  intro n;induction n with
  | zero=>intro _;simp [i7,Ty.zero]
  | succ n ih=>intro h;rw [gp h];show (av (xs.take n)).length+1=_;rw [ih (by omega)]
 have:=key xs.length (Nat.le_refl _)
 rwa [bd] at this
theorem zjJ(h:n < xs.length):(av (xs.take (n+1))).last=at' xs n:=by
 rw [gp h];rfl
noncomputable def dif(xs:List OI):Nat->Nat
 | 0=>0
 | n+1=>dif xs n+(if 1<=n/\at' xs n≠at' xs (n - 1) then 1 else 0)
noncomputable def fst(xs:List OI):Nat->List OI
 | 0=>[]
 | n+1=>if at' xs n∈xs.take n then fst xs n else fst xs n++[at' xs n]
theorem nh(xs:List OI)(n:Nat):fst xs (n+1)=if at' xs n∈xs.take n then fst xs n else fst xs n++[at' xs n]:=rfl
theorem nX  : ∀ (n:Nat) (v:OI),n<=xs.length->(v∈(av (xs.take n)).book↔v∈xs.take n):=by
 intro n;induction n with
 | zero=>intro v _;simp [i7,Ty.zero]
 | succ n ih=>
  intro v h;rw [gp h,cN h];show v∈(if at' xs n∈(av (xs.take n)).book then (av (xs.take n)).book else (av (xs.take n)).book++[at' xs n])↔_;by_cases e:at' xs n∈(av (xs.take n)).book
  ·rw [if_pos e,ih v (by omega),al_mp];constructor
   ·exact Or.inl
   ·rintro (q | q)
    ·exact q
    ·have:v=at' xs n:=by simpa using q
     rw [this];exact (ih _ (by omega)).mp e
  ·rw [if_neg e,al_mp,al_mp,ih v (by omega)]
theorem rV  : ∀ (n:Nat),n<=xs.length->(av (xs.take n)).book=fst xs n:=by
 intro n;induction n with
 | zero=>intro _;simp [i7,Ty.zero,fst]
 | succ n ih=>
  intro h;rw [gp h];show (if at' xs n∈(av (xs.take n)).book then (av (xs.take n)).book else (av (xs.take n)).book++[at' xs n])=_;rw [ih (by omega),nh];have q:=nX n (at' xs n) (show n<=xs.length by omega);rw [ih (by omega)] at q;by_cases e:at' xs n∈fst xs n
  ·rw [if_pos e,if_pos (q.mp e)]
  ·rw [if_neg e,if_neg (λ z=>e (q.mpr z))]
theorem ng(xs:List OI):∀ n,(fst xs n).length<=n
 | 0=>Nat.le_refl _
 | n+1=>by
  rw [nh];have:=ng xs n
  split
  ·omega
  ·rw [aO,cn];omega
theorem uT{xs:List OI}:∀ {n:Nat},0 < n->0 < (fst xs n).length
 | n+1,_=>by
  cases n with
  | zero=>simp [fst]
  | succ m=>
   have:=uT (xs:=xs) (n:=m+1) (by omega);rw [nh]
   split
   ·exact this
   ·rw [aO];omega
theorem yB  : ∀ (n:Nat),n<=xs.length->((av (xs.take n)).none=true↔.none∈xs.take n):=by
 intro n;induction n with
 | zero=>intro _;simp [i7,Ty.zero]
 | succ n ih=>
  intro h;rw [gp h,cN h];show (if at' xs n = .none then true else (av (xs.take n)).none)=true↔_;by_cases e:at' xs n = .none
  ·simp [e]
  ·rw [if_neg e,ih (by omega),al_mp];constructor
   ·exact Or.inl
   ·rintro (q | q)
    ·exact q
    ·exact absurd (by simpa using q:(.none:OI)=at' xs n).symm e
noncomputable def be(xs:List OI):List Int:=xs.filterMap id
theorem qX(xs:List OI):be (xs++[.none])=be xs:=by simp [be]
theorem qY(xs:List OI)(i:Int):be (xs++[.some i])=be xs++[i]:=by simp [be]
noncomputable def cz:List Int->OI
 | []=>.none
 | x::r=>some (r.foldl (λ m i=>if i < m then i else m) x)
noncomputable def dn:List Int->OI
 | []=>.none
 | x::r=>some (r.foldl (λ m i=>if m < i then i else m) x)
theorem zey(l:List Int)(i:Int):cz (l++[i])=some (fZ (cz l) i):=by
 cases l with
 | nil=>rfl
 | cons x r=>simp [cz,fZ,List.foldl_append]
theorem zeq(l:List Int)(i:Int):dn (l++[i])=some (eE (dn l) i):=by
 cases l with
 | nil=>rfl
 | cons x r=>simp [dn,eE,List.foldl_append]
theorem zjL  : ∀ (n:Nat),n<=xs.length->(av (xs.take n)).least=cz (be (xs.take n))/\(av (xs.take n)).greatest=dn (be (xs.take n)):=by
 intro n;induction n with
 | zero=>intro _;simp [i7,Ty.zero,be,cz,dn]
 | succ n ih=>
  intro h;obtain ⟨h1,h2⟩:=ih (by omega);rw [gp h,cN h];cases e:at' xs n with
  | none=>rw [qX];exact ⟨h1,h2⟩
  | some i=>
   rw [qY,zey,zeq];show some (fZ (av (xs.take n)).least i)=_/\some (eE (av (xs.take n)).greatest i)=_;rw [h1,h2];exact ⟨rfl,rfl⟩
noncomputable def above(m:Int)(v:OI):Int:=match v with | .none=>0 | .some i=>i - m+1
theorem iS(h:cz l=some m):∀ i∈l,m<=i:=by
 cases l with
 | nil=>cases h
 | cons x r=>
  simp [cz] at h;have key:∀ (r:List Int) (x:Int),r.foldl (λ m i=>if i < m then i else m) x<=x/\∀ i∈r,r.foldl (λ m i=>if i < m then i else m) x<=i:=by
   intro r;induction r with
   | nil=>intro x;simp
   | cons y r ih=>
    intro x;simp only [List.foldl_cons];obtain ⟨a,b⟩:=ih (if y < x then y else x);have le:(if y < x then y else x)<=x/\(if y < x then y else x)<=y:=by split <;> omega
    refine ⟨by omega,λ i hi=>?_⟩;rcases al_mc.mp hi with rfl | hi
    ·omega
    ·exact b i hi
  obtain ⟨a,b⟩:=key r x;intro i hi;rcases al_mc.mp hi with rfl | hi
  ·omega
  ·have:=b i hi;omega
theorem nU(h:dn l=some m):∀ i∈l,i<=m:=by
 cases l with
 | nil=>cases h
 | cons x r=>
  simp [dn] at h;have key:∀ (r:List Int) (x:Int),x<=r.foldl (λ m i=>if m < i then i else m) x/\∀ i∈r,i<=r.foldl (λ m i=>if m < i then i else m) x:=by
   intro r;induction r with
   | nil=>intro x;simp
   | cons y r ih=>
    intro x;simp only [List.foldl_cons];obtain ⟨a,b⟩:=ih (if x < y then y else x);have le:x<=(if x < y then y else x)/\y<=(if x < y then y else x):=by split <;> omega
    refine ⟨by omega,λ i hi=>?_⟩;rcases al_mc.mp hi with rfl | hi
    ·omega
    ·exact b i hi
  obtain ⟨a,b⟩:=key r x;intro i hi;rcases al_mc.mp hi with rfl | hi
  ·omega
  ·have:=b i hi;omega
theorem kD(h:dn l=some m):m∈l:=by
 cases l with
 | nil=>cases h
 | cons x r=>
  simp [dn] at h;have key:∀ (r:List Int) (x:Int),r.foldl (λ m i=>if m < i then i else m) x=x\/r.foldl (λ m i=>if m < i then i else m) x∈r:=by
   intro r;induction r with
   | nil=>intro x;simp
   | cons y r ih=>
    intro x;simp only [List.foldl_cons];rcases ih (if x < y then y else x) with a | a
    ·rw [a]
     split
     ·right;simp
     ·left;rfl
    ·right;exact bp _ a
  rcases key r x with a | a
  ·rw [← h,a];simp
  ·rw [← h];exact bp _ a
theorem js(h:cz l=some m):m∈l:=by
 cases l with
 | nil=>cases h
 | cons x r=>
  simp [cz] at h;have key:∀ (r:List Int) (x:Int),r.foldl (λ m i=>if i < m then i else m) x=x\/r.foldl (λ m i=>if i < m then i else m) x∈r:=by
   intro r;induction r with
   | nil=>intro x;simp
   | cons y r ih=>
    intro x;simp only [List.foldl_cons];rcases ih (if y < x then y else x) with a | a
    ·rw [a]
     split
     ·right;simp
     ·left;rfl
    ·right;exact bp _ a
  rcases key r x with a | a
  ·rw [← h,a];simp
  ·rw [← h];exact bp _ a
theorem zep(h1:m∈l)(h2:∀ i∈l,i<=m):dn l=some m:=by
 cases e:dn l with
 | none=>cases l with
  | nil=>cases h1
  | cons x r=>cases e
 | some k=>
  have a:=nU e m h1;have b:=h2 k (kD e);rw [show k=m by omega]
theorem mem_somes{i:Int}:i∈be xs↔some i∈xs:=by
 simp [be]
noncomputable def stp(xs:List OI):Nat->List Int
 | 0=>[]
 | n+1=>if 1<=n then stp xs n++[bV ((at' xs n).getD 0 - (at' xs (n - 1)).getD 0)] else stp xs n
noncomputable def zaR(xs:List OI):OI:=if 64 < (fst xs xs.length).length then .none else some (11+(6+24 * (fst xs xs.length).length+(aL ((fst xs xs.length).length - 1):Int) * xs.length))
noncomputable def zcj(xs:List OI):Int:=match cz (be xs),dn (be xs) with | some a,some b=>b - a+1 | _,_=>0
noncomputable def zaG(xs:List OI):Int:=11+(24+5+(aL (zcj xs).toNat:Int) * xs.length)
noncomputable def zjg(xs:List OI):OI:=if .none∈xs then .none else some (11+(24+5+(aL (av xs).widest.toNat:Int) * (xs.length - 1)))
noncomputable def zle(xs:List OI):List OI:=[some (11+24 * xs.length),some (11+(8+(24+8) * (1+dif xs xs.length:Nat))),zaR xs,some (zaG xs),zjg xs]
noncomputable def top(i:Nat):Stmt:=PySem.Challenge.pw_tightrows_k30_tables_and_rows.main.body.getD i (.Pass ⟨0,0,0,0⟩)
noncomputable abbrev qt:Stmt:=top 12
noncomputable abbrev pZ:Stmt:=top 13
noncomputable abbrev oZ:Stmt:=bO (top 14) 0
noncomputable abbrev oY:Stmt:=bO (top 14) 1
noncomputable abbrev o0:Stmt:=bO (top 14) 2
noncomputable abbrev o3:Stmt:=bO (top 14) 3
noncomputable abbrev li:Stmt:=top 28
noncomputable abbrev jH:Stmt:=top 29
noncomputable abbrev pK:Stmt:=top 30
noncomputable abbrev p6:Stmt:=top 31
noncomputable abbrev pQ:Stmt:=top 32
noncomputable abbrev pT:Stmt:=top 33
noncomputable abbrev pY:Stmt:=top 34
noncomputable abbrev qM:Stmt:=top 35
noncomputable abbrev pq:Stmt:=bO (top 36) 0
noncomputable abbrev pi:Stmt:=bO (top 36) 1
noncomputable abbrev pj:Stmt:=bO (top 36) 2
noncomputable abbrev pp:Stmt:=bO (top 36) 3
noncomputable abbrev pk:Stmt:=bO (top 36) 4
noncomputable abbrev pA:Stmt:=bO (top 36) 5
noncomputable abbrev pz:Stmt:=bO (top 36) 6
noncomputable abbrev px:Stmt:=bO (top 36) 7
noncomputable abbrev qK:Stmt:=top 37
noncomputable abbrev qD:Stmt:=top 38
noncomputable abbrev pM:Stmt:=top 39
noncomputable abbrev qO:Stmt:=top 40
noncomputable abbrev qv:Stmt:=top 41
noncomputable abbrev qH:Stmt:=top 42
noncomputable abbrev qG:Stmt:=top 43
noncomputable abbrev pP:Stmt:=top 44
noncomputable abbrev pX:Stmt:=top 45
noncomputable abbrev pL:Stmt:=top 46
noncomputable abbrev qI:Stmt:=top 47
noncomputable abbrev qu:Stmt:=top 49
noncomputable abbrev qC:Stmt:=top 50
noncomputable abbrev qz:Stmt:=top 51
noncomputable abbrev qA:Stmt:=top 52
noncomputable abbrev qy:Stmt:=top 53
noncomputable abbrev qw:Stmt:=top 54
noncomputable abbrev qB:Stmt:=top 55
noncomputable abbrev qx:Stmt:=top 57
noncomputable abbrev qN:Stmt:=top 58
noncomputable abbrev pR:Stmt:=top 75
noncomputable abbrev qF:Stmt:=top 76
noncomputable abbrev pN:Stmt:=top 77
noncomputable abbrev qE:Stmt:=top 78
noncomputable abbrev qp:Stmt:=top 79
noncomputable abbrev qr:Stmt:=top 80
noncomputable abbrev pW:Stmt:=top 81
noncomputable abbrev pO:Stmt:=top 82
noncomputable abbrev qL:Stmt:=top 83
noncomputable abbrev pV:Stmt:=top 85
noncomputable abbrev qP:Stmt:=top 86
noncomputable abbrev oV:Stmt:=bO (top 87) 0
noncomputable abbrev oX:Stmt:=bO (top 87) 2
noncomputable abbrev oS:Stmt:=bO (top 87) 4
noncomputable abbrev oW:Stmt:=bO (top 87) 12
noncomputable abbrev oU:Stmt:=bO (top 87) 13
noncomputable abbrev pJ:Stmt:=top 90
noncomputable abbrev p8:Stmt:=top 91
noncomputable abbrev qc:Stmt:=top 92
noncomputable abbrev p9:Stmt:=top 93
noncomputable abbrev pE:Stmt:=bO (top 95) 0
noncomputable abbrev pG:Stmt:=bO (top 95) 1
noncomputable abbrev pI:Stmt:=bO (top 95) 2
noncomputable abbrev pC:Stmt:=bO (top 95) 3
noncomputable abbrev pH:Stmt:=bO (top 95) 4
noncomputable abbrev pD:Stmt:=bO (top 95) 5
noncomputable abbrev p7:Stmt:=top 100
noncomputable abbrev pS:Stmt:=top 101
noncomputable abbrev qJ:Stmt:=top 102
noncomputable abbrev o7:Stmt:=bO (top 104) 0
noncomputable abbrev o9:Stmt:=bO (top 104) 1
noncomputable abbrev pc:Stmt:=bO (top 104) 2
noncomputable abbrev o5:Stmt:=bO (top 104) 3
noncomputable abbrev pf:Stmt:=bO (top 104) 4
noncomputable abbrev o6:Stmt:=bO (top 104) 5
noncomputable abbrev o8:Stmt:=bO (top 104) 6
noncomputable abbrev ph:Stmt:=bO (top 104) 7
noncomputable abbrev o4:Stmt:=bO (top 104) 8
noncomputable abbrev qf:Stmt:=top 106
noncomputable abbrev qj:Stmt:=top 107
noncomputable abbrev qh:Stmt:=top 108
noncomputable abbrev qg:Stmt:=top 109
noncomputable abbrev qm:Stmt:=top 110
noncomputable abbrev qk:Stmt:=top 111
noncomputable abbrev qo:Stmt:=top 112
noncomputable abbrev qd:Stmt:=top 113
noncomputable abbrev qe:Stmt:=top 114
noncomputable abbrev qi:Stmt:=top 115
noncomputable abbrev ik:Stmt:=top 116
noncomputable def kindsS:List Str:=["plain", "runs", "book", "base", "steps"]
noncomputable def kindsV:List V:=kindsS.map V.str
structure Ad where
 aX:Addr
 aw:Addr
 aW:Addr
 bE:Addr
 aV:Addr
 fV:Addr
 cQ:Addr
 dX:Addr
 eV:Addr
 bU:Addr
 fU:Addr
 cr:Addr
 cp:Addr
 cq:Addr
 eS:Addr
 zkv:Addr
 zlb:Addr
 zkw:Addr
 zlc:Addr
variable {t:Ad}
structure Txt (K:W.Frag) (mg:Str->Option Value) (t:Ad):Prop where
 zb2:mg "Reader" = some (.ref t.aX)
 cf:Cls K t.aX
 jc:NoAttr K t.aX "text"
 gN:NoAttr K t.aX "place"
 uX:mg "Tally" = some (.ref t.aw)
 aT:Cls K t.aw
 fk:NoAttr K t.aw "length"
 jd:NoAttr K t.aw "last"
 j4:NoAttr K t.aw "runs"
 mD:NoAttr K t.aw "book"
 j0:NoAttr K t.aw "has_none"
 gO:NoAttr K t.aw "least"
 iJ:NoAttr K t.aw "greatest"
 j5:NoAttr K t.aw "widest"
 uU:mg "Column" = some (.ref t.aW)
 dm:Cls K t.aW
 jb:NoAttr K t.aW "lying"
 u5:mg "WordColumn" = some (.ref t.bE)
 dF:Cls K t.bE
 je:NoAttr K t.bE "column"
 j6:NoAttr K t.bE "numbered"
 uW:mg "Table" = some (.ref t.aV)
 bM:Cls K t.aV
 fj:NoAttr K t.aV "parts"
 fP:NoAttr K t.aV "living"
 mB:NoAttr K t.aV "coming"
 km:∃ k,mg "FARTHEST" = some (.int 4000000 k)
 ko:∃ k,mg "SHIFT" = some (.int 4000001 k)
 zb7:∃ k,mg "MOST_IN_BLOCK" = some (.int 100 k)
 zb8:∃ k,mg "MOST_IN_BOOK" = some (.int 64 k)
 nv:∃ k,mg "KIND_BITS" = some (.int 3 k)
 nw:∃ k,mg "LENGTH_BITS" = some (.int 8 k)
 fW:∃ k,mg "VALUE_BITS" = some (.int 24 k)
 ny:∃ k,mg "RUNS_BITS" = some (.int 8 k)
 nA:∃ k,mg "TIMES_BITS" = some (.int 8 k)
 nu:∃ k,mg "BOOK_BITS" = some (.int 6 k)
 jm:∃ k,mg "WIDTH_BITS" = some (.int 5 k)
 u6:∃ k,mg "MOST_IN_COLUMN" = some (.int 64 k)
 zca:∃ k,mg "MOST_IN_WORD" = some (.int 12 k)
 zb6:∃ k,mg "MOST_COLUMNS" = some (.int 8 k)
 zb9:∃ k,mg "MOST_IN_NAME" = some (.int 8 k)
 iN:mg "KINDS" = some (.ref t.eS)
 iR:∀ H,SqT K H t.eS kindsV
 vk:∃ o,K.lookup t.eS=some o/\o.cls = .type "tuple" /\ o.dict=none
 zb3:mg "RowsError" = some (.ref t.fV)
 nk:mg "BadValue" = some (.ref t.cQ)
 yK:ExcC K t.cQ
 nn:mg "NoPacking" = some (.ref t.dX)
 yL:ExcC K t.dX
 nj:mg "BadBits" = some (.ref t.eV)
 yJ:ExcC K t.eV
 nq:mg "NoRow" = some (.ref t.bU)
 yM:ExcC K t.bU
 zdn:fi K t.bU
 zdT:W.exmOne K (.ref t.bU) (.ref t.fV)=some true
 zj8:W.kitOne K (.ref t.bU) (.type "ValueError")=some true
 zcP:W.kitOne K (.ref t.bU) (.ref t.cQ)=some false
 zcR:W.kitOne K (.ref t.bU) (.ref t.dX)=some false
 zcL:W.kitOne K (.ref t.bU) (.ref t.eV)=some false
 zcS:W.kitOne K (.ref t.bU) (.ref t.bU)=some true
 zcM:W.kitOne K (.ref t.bU) (.ref t.fU)=some false
 zcQ:W.kitOne K (.ref t.bU) (.ref t.cr)=some false
 zcN:W.kitOne K (.ref t.bU) (.ref t.cp)=some false
 zcO:W.kitOne K (.ref t.bU) (.ref t.cq)=some false
 zbY:mg "BadQuestion" = some (.ref t.fU)
 uV:mg "NoColumn" = some (.ref t.cr)
 zkj:ExcC K t.cr
 zdm:fi K t.cr
 zdS:W.exmOne K (.ref t.cr) (.ref t.fV)=some true
 zj7:W.kitOne K (.ref t.cr) (.type "ValueError")=some true
 zcH:W.kitOne K (.ref t.cr) (.ref t.cQ)=some false
 zcJ:W.kitOne K (.ref t.cr) (.ref t.dX)=some false
 zcD:W.kitOne K (.ref t.cr) (.ref t.eV)=some false
 zcK:W.kitOne K (.ref t.cr) (.ref t.bU)=some false
 zcE:W.kitOne K (.ref t.cr) (.ref t.fU)=some false
 zcI:W.kitOne K (.ref t.cr) (.ref t.cr)=some true
 zcF:W.kitOne K (.ref t.cr) (.ref t.cp)=some false
 zcG:W.kitOne K (.ref t.cr) (.ref t.cq)=some false
 kj:mg "BadRow" = some (.ref t.cp)
 r9:ExcC K t.cp
 zdk:fi K t.cp
 zdQ:W.exmOne K (.ref t.cp) (.ref t.fV)=some true
 zj5:W.kitOne K (.ref t.cp) (.type "ValueError")=some true
 zcp:W.kitOne K (.ref t.cp) (.ref t.cQ)=some false
 zcr:W.kitOne K (.ref t.cp) (.ref t.dX)=some false
 zcl:W.kitOne K (.ref t.cp) (.ref t.eV)=some false
 zcs:W.kitOne K (.ref t.cp) (.ref t.bU)=some false
 zcm:W.kitOne K (.ref t.cp) (.ref t.fU)=some false
 zcq:W.kitOne K (.ref t.cp) (.ref t.cr)=some false
 zcn:W.kitOne K (.ref t.cp) (.ref t.cp)=some true
 zco:W.kitOne K (.ref t.cp) (.ref t.cq)=some false
 kl:mg "BadTable" = some (.ref t.cq)
 sd:ExcC K t.cq
 zdl:fi K t.cq
 zdR:W.exmOne K (.ref t.cq) (.ref t.fV)=some true
 zj6:W.kitOne K (.ref t.cq) (.type "ValueError")=some true
 zcx:W.kitOne K (.ref t.cq) (.ref t.cQ)=some false
 zcz:W.kitOne K (.ref t.cq) (.ref t.dX)=some false
 zct:W.kitOne K (.ref t.cq) (.ref t.eV)=some false
 zcA:W.kitOne K (.ref t.cq) (.ref t.bU)=some false
 zcu:W.kitOne K (.ref t.cq) (.ref t.fU)=some false
 zcy:W.kitOne K (.ref t.cq) (.ref t.cr)=some false
 zcv:W.kitOne K (.ref t.cq) (.ref t.cp)=some false
 zcw:W.kitOne K (.ref t.cq) (.ref t.cq)=some true
 ii:W.kitOne K (.type "int") (.type "int")=some true
 ib:W.kitOne K (.type "int") (.type "bool")=some false
 itt:W.kitOne K (.type "tuple") (.type "tuple")=some true
 iss:W.kitOne K (.type "str") (.type "str")=some true
 isi:W.kitOne K (.type "str") (.type "int")=some false
 iis:W.kitOne K (.type "int") (.type "str")=some false
 ins:W.kitOne K (.type "NoneType") (.type "str")=some false
 zkk:W.findIn K (.ref t.aW) "__class__" = some (some (.builtin "object.__class__"))/\W.mroIn K t.aW (.type "object")=some true
 zcB:W.kitOne K (.ref t.aW) (.ref t.bE)=some false
 zkl:W.findIn K (.ref t.bE) "__class__" = some (some (.builtin "object.__class__"))/\W.mroIn K t.bE (.type "object")=some true
 zcY:W.kitOne K (.ref t.bE) (.ref t.bE)=some true
 uc:W.specialIn K (.builtin "object.__class__") "__get__" = some (some (.builtin "getset_descriptor.__get__"))/\W.takesIn K (.builtin "object.__class__")=some true
 zeP:mg "ValueError" = none
 kJ:mg "all" = none
 vQ:mg "bool" = none
 oi:mg "int" = none
 dq:mg "isinstance" = none
 bH:mg "len" = none
 ju:mg "list" = none
 oj:mg "max" = none
 om:mg "min" = none
 dA:mg "range" = none
 zfu:mg "reversed" = none
 zfv:mg "set" = none
 we:mg "sorted" = none
 zfw:mg "str" = none
 zfx:mg "tuple" = none
 kM:mg "zip" = none
theorem oh(n:Nat):aL n=if n=0 then 0 else n.log2+1:=by
 induction n using Nat.strongRecOn with
 | ind n ih=>
  by_cases h:n=0
  ·subst h;simp [vX]
  ·rw [if_neg h,zfk (by omega),Nat.log2_def];by_cases h2:2<=n
   ·rw [if_pos h2,ih (n / 2) (by omega),if_neg (by omega)]
   ·rw [if_neg h2,show n / 2=0 by omega,vX]
noncomputable def okV:OI->Bool
 | .none=>true
 | .some i=>decide (-4000000<=i/\i<=4000000)
noncomputable def okB(xs:List OI):Bool:=decide (1<=xs.length/\xs.length<=100) && xs.all okV
noncomputable def ov:OI->V
 | .none=>.non
 | .some i=>.int i
theorem zhb(o:OI):bN (ov o)=true:=by cases o <;> rfl
theorem zhe(xs:List OI):(xs.map ov).all bN=true:=by
 rw [List.all_eq_true];intro x hx;obtain ⟨o,_,rfl⟩:=List.mem_map.mp hx;exact zhb o
theorem zhc{a b:OI}(h:ov a=ov b):a=b:=by
 cases a <;> cases b <;> first | rfl | (injection h with h;rw [h]) | cases h
theorem gC(a b:OI):qT (ov a) (ov b)=true:=by cases a <;> cases b <;> rfl
theorem ww(a b:OI):decide (ov a=ov b)=decide (a=b):=by
 by_cases h:a=b
 ·subst h;simp
 ·rw [aK h,aK λ z=>h (zhc z)]
theorem zha(a b:OI):eqV (ov a) (ov b)=decide (a=b):=by
 cases a <;> cases b <;> simp [ov,eqV]
 rename_i i j
 by_cases h:i=j
 ·subst h;simp
 ·simp [h]
noncomputable def io:Sp:=λ vs H Q _=>∃ n:Int,vs=[.int n]/\0<=n/\Q (.int (aL n.toNat)) H
theorem ziU:aB ["number"] ["number"] (ax qt):=by walk_at "sc"
theorem zaO{n:Int}(h:0<=n):((Builtin.Int.intBits n:Nat):Int)=(aL n.toNat:Int):=by
 rw [oh];unfold Builtin.Int.intBits;by_cases e:n=0
 ·subst e;simp
 ·have e':(n == 0)=false:=by simpa using e
  rw [e',if_neg (by decide),if_neg (by omega),show n.natAbs=n.toNat by omega]
theorem zgt(F:Fun K "needed" "needed" qt f fd):FnOk P w K mg base CX0 1 f fd ["number"] io:=by
 refine F.ok ziU (λ vs H Q E h=>?_) (λ cdv A outer s H vs Q E hr h=>?_)
 ·obtain ⟨n,rfl,_⟩:=h;rfl
 ·obtain ⟨n,rfl,h0,k⟩:=h;refine ⟨_,am (aC (zhj PySem.F.plainAttrs_int PySem.F.slot_int_bit_length PySem.F.type_int_bit_length zeG (pv 0))),?_⟩;refine ⟨_,rfl,rfl,n,rfl,rfl,?_⟩;rw [zaO h0];exact k
noncomputable def rC:Sp:=λ vs H Q _=>∃ i:Int,vs=[.int i]/\Q (.bl true) H
theorem xi:aB ["thing"] ["thing"] (ax li):=by walk_at "sc"
theorem zgd(T:Txt K mg t)(F:Fun K "is_whole" "is_whole" li f fd):FnOk P w K mg base CX0 1 f fd ["thing"] rC:=by
 refine F.ok xi (λ vs H Q E h=>?_) (λ cdv A outer s H vs Q E hr h=>?_)
 ·obtain ⟨n,rfl,_⟩:=h;rfl
 ·obtain ⟨i,rfl,k⟩:=h;refine ⟨_,(am (aC (gD (aR (dk K) (by rfl) T.dq PyProof.Rows.Boot.«isinstance» (aa (pv 0) (aa (hW T.oi PyProof.Rows.Boot.«int») ae))) (fF (wA (aR (dk K) (by rfl) T.dq PyProof.Rows.Boot.«isinstance» (aa (pv 0) (aa (hW T.vQ PyProof.Rows.Boot.«bool») ae)))))))),?_⟩;refine ⟨_,rfl,_,_,_,rfl,gY (.int i) T.ii,_,rfl,?_⟩;refine aE ⟨_,rfl,_,_,_,rfl,gY (.int i) T.ib,_,rfl,?_⟩;exact k
noncomputable def xI:Sp:=λ vs H Q _=>∃ o:OI,vs=[ov o]/\Q (.bl (okV o)) H
theorem xh:aB ["value"] ["value"] (ax jH):=by walk_at "sc"
theorem wo(T:Txt K mg t)(iC:Cal P w K mg base CX0 1 "is_whole" ["thing"] rC)(F:Fun K "is_value" "is_value" jH f fd):FnOk P w K mg base CX0 2 f fd ["value"] xI:=by
 refine F.ok xh (λ vs H Q E h=>?_) (λ cdv A outer s H vs Q E hr h=>?_)
 ·obtain ⟨n,rfl,_⟩:=h;rfl
 ·obtain ⟨o,rfl,k⟩:=h;refine ⟨_,(am (aC (oG (iW dM (pv 0) bx (aP _)) (fF (gD (iC.pe hr az (aa (pv 0) ae)) (fF (jw ff ff (dZ d5 (bo T.km)) (pv 0) (bo T.km)))))))),?_⟩;refine ⟨_,rfl,rfl,_,rfl,?_⟩;cases o with
  | none=>exact aE k
  | some i=>
   refine ay ?_;refine ⟨_,rfl,i,rfl,_,rfl,?_⟩;refine aE ?_;refine ⟨_,rfl,_,rfl,_,_,rfl,rfl,_,rfl,?_⟩;by_cases h1 : -4000000<=i
   ·rw [aN h1];refine aE ⟨_,_,rfl,rfl,?_⟩;have e:okV (some i)=decide (i<=4000000):=by simp [okV,h1]
    show Q (.bl (decide (i<=4000000))) H;rw [← e];exact k
   ·rw [aK h1];refine ay ?_;have e:okV (some i)=false:=by simp [okV,h1]
    show Q (.bl false) H;rw [← e];exact k
theorem zfj:(["value"]:List Str).Nodup:=by decide +kernel
noncomputable def rg(K:W.Frag):Sp:=λ vs H Q _=>∃ (p:Addr) (xs:List OI),vs=[.ref p]/\SqL K H p (xs.map ov)/\xs.length<=1000/\∀ H',Same H H'->Q (.bl (xs.all okV)) H'
theorem ziA:aB ["values"] ["values"] (ax pK):=by walk_at "sc"
theorem zfP(T:Txt K mg t)(C1:Cal P w K mg base CX0 2 "is_value" ["value"] xI)(F:Fun K "are_values" "are_values" pK f fd):FnOk P w K mg base CX0 3 f fd ["values"] (rg K):=by
 refine F.ok ziA (λ vs H Q E h=>?_) (λ cdv A outer s H vs Q E hr h=>?_)
 ·obtain ⟨p,xs,rfl,_⟩:=h;rfl
 ·obtain ⟨p,xs,rfl,hS,hl,k⟩:=h;refine ⟨_,am (aC (aR (tW rfl) (by rfl) T.kJ PyProof.Rows.Boot.«all» (aa
   (kW (N:=["value"]) (fr:=[none]) ⟨rfl,rfl,rfl,rfl,rfl,rfl⟩ rfl (cH (pv 0))
    (λ C fp s H=>⟨aU (i:=0) zfj rfl (Or.inl rfl),bZ,C1.pe hr az (aa (pv 0) ae)⟩)) ae))),?_⟩
  refine ⟨_,rfl,p,rfl,⟨_,hS⟩,de (xs:=xs.map ov) (λ i acc H'=>Same H H'/\acc=((xs.take i).map λ o=>V.bl (okV o))) ⟨Same.refl _,rfl⟩ ?_ ?_ ?_ ?_⟩
  ·rintro i acc H' hi ⟨s1,rfl⟩;refine ⟨s1.seq hS,?_⟩;rw [aj,bc];omega
  ·rw [aj];exact Nat.le_of_lt (br hl)
  ·rintro i x acc H' hx hlt ⟨s1,rfl⟩;rw [aj] at hlt;have ex:xs[i]?=some xs[i]:=by simp [hlt]
   rw [aH,ex] at hx;cases hx;refine ⟨Wk.set rfl,?_⟩;refine tT ⟨_,rfl,xs[i],rfl,?_⟩;refine cw (by rw [aj];exact hlt) ⟨s1,?_⟩;rw [List.take_add_one,ex,aJ];rfl
  ·rintro acc H' ⟨s1,rfl⟩ q hq;refine ⟨q,xs.map okV,rfl,.of ?_,?_⟩
   ·rw [ah,aj,bd,List.map_map];rfl
   ·show Q _ _;rw [List.all_map,Function.id_comp];exact k _ (aM s1 hq)
noncomputable def rB(K:W.Frag):Sp:=λ vs H Q _=>∃ (p:Addr) (xs:List OI),vs=[.ref p]/\SqL K H p (xs.map ov)/\xs.length<=16777216/\∀ H',Same H H'->Q (.bl (okB xs)) H'
theorem ziL:aB ["values"] ["values"] (ax p6):=by walk_at "sc"
theorem zgc(T:Txt K mg t)(C1:Cal P w K mg base CX0 3 "are_values" ["values"] (rg K))(F:Fun K "is_block" "is_block" p6 f fd):FnOk P w K mg base CX0 4 f fd ["values"] (rB K):=by
 refine F.ok ziL (λ vs H Q E h=>?_) (λ cdv A outer s H vs Q E hr h=>?_)
 ·obtain ⟨p,xs,rfl,_⟩:=h;rfl
 ·obtain ⟨p,xs,rfl,hS,hl,k⟩:=h;refine ⟨_,am (aC (gD (jw ff ff aq (aR tX (by rfl) T.bH PyProof.Rows.Boot.«len» (aa (pv 0) ae)) (bo T.zb7))
   (fF (C1.pe hr az (aa (pv 0) ae))))),?_⟩
  refine ⟨_,rfl,p,_,rfl,.inl hS,_,_,rfl,rfl,_,rfl,?_⟩;rw [aj];have same:=Same.refl H;by_cases h1:(1:Int)<=(xs.length:Int)
  ·rw [aN h1];refine aE ⟨_,_,rfl,rfl,_,rfl,?_⟩;by_cases h2:(xs.length:Int)<=100
   ·rw [aN h2];refine aE ⟨_,rfl,p,xs,rfl,hS,by omega,λ H' s1=>?_⟩;have e:okB xs=xs.all okV:=by simp [okB,show 1<=xs.length by omega,show xs.length<=100 by omega]
    show Q _ _;rw [← e];exact k _ s1
   ·rw [aK h2];refine ay ?_;have e:okB xs=false:=by simp [okB,show ¬ xs.length<=100 by omega]
    show Q (.bl false) H;rw [← e];exact k _ same
  ·rw [aK h1];refine ay ⟨_,rfl,?_⟩;refine ay ?_;have e:okB xs=false:=by simp [okB,show ¬ 1<=xs.length by omega]
   show Q (.bl false) H;rw [← e];exact k _ same
noncomputable def rj(K:W.Frag)(t:Ad):Sp:=λ vs H Q E=>∃ (p:Addr) (xs:List OI),vs=[.ref p]/\SqL K H p (xs.map ov)/\xs.length<=1000/\
 (okB xs=true->∀ H',Same H H'->Q .non H')/\(okB xs=false->∀ H',Same H H'->E (.ref t.cQ) none H')
theorem ziD:aB ["values"] ["values"] (ax pQ):=by walk_at "sc"
theorem zfY(T:Txt K mg t)(C1:Cal P w K mg base CX0 4 "is_block" ["values"] (rB K))(F:Fun K "check_block" "check_block" pQ f fd):FnOk P w K mg base (CXr P w) 5 f fd ["values"] (rj K t):=by
 refine F.okX ziD (λ vs H Q E h=>?_) (λ cdv A outer s H vs Q E hr h=>?_)
 ·obtain ⟨p,xs,rfl,_⟩:=h;rfl
 ·obtain ⟨p,xs,rfl,hS,hl,k1,k2⟩:=h;refine ⟨_,am (a8 (fG (fg (C1.pe hr az (aa (pv 0) ae)))) (am (dP dR T.yK rfl (by rfl) T.nk (aa aD ae))) bq),?_⟩;refine ⟨_,rfl,p,xs,rfl,hS,by omega,λ H' s1=>⟨_,rfl,?_⟩⟩;cases e:okB xs with
  | true=>exact ay (k1 e H' s1)
  | false=>exact aE ⟨by show 1<=sizeLine;decide,k2 e H' s1⟩
noncomputable def xC(t:Ad):Sp:=λ vs H Q E=>∃ x:Str,vs=[.str x]/\(x∈kindsS->Q .non H)/\(x∉kindsS->E (.ref t.dX) none H)
theorem ziG:aB ["kind"] ["kind"] (ax pT):=by walk_at "sc"
theorem zc2(x:Str):inV (.str x) kindsV=decide (x∈kindsS):=by
 unfold inV kindsV;rw [List.any_map];have key:∀ l:List Str,l.any ((λ y=>eqV y (.str x)) ∘ V.str)=decide (x∈l):=by
  intro l;induction l with
  | nil=>simp
  | cons a l ih=>
   rw [List.any_cons,ih];by_cases e:x=a
   ·subst e;simp [eqV]
   ·have:(a == x)=false:=by simpa using λ z=>e z.symm
    simp [eqV,this,e]
 exact key _
theorem zf0(T:Txt K mg t)(F:Fun K "check_kind" "check_kind" pT f fd):FnOk P w K mg base (CXr P w) 1 f fd ["kind"] (xC t):=by
 refine F.okX ziG (λ vs H Q E h=>?_) (λ cdv A outer s H vs Q E hr h=>?_)
 ·obtain ⟨p,rfl,_⟩:=h;rfl
 ·obtain ⟨x,rfl,k1,k2⟩:=h;refine ⟨_,am (a8 (aQ wu (pv 0) (dN T.iN) (by rfl)) (am (dP dR T.yL rfl (by rfl) T.nn (aa aD ae))) bq),?_⟩;refine ⟨_,rfl,t.eS,kindsV,rfl,.inr (T.iR _),rfl,rfl,_,rfl,?_⟩;rw [if_pos rfl,zc2];by_cases e:x∈kindsS
  ·rw [aN e];exact ay (k1 e)
  ·rw [aK e];exact aE ⟨by show 1<=sizeLine;decide,k2 e⟩
noncomputable def lm:Sp:=λ vs H Q _=>∃ d:Int,vs=[.int d]/\Q (.int (bV d)) H
theorem ziI:aB ["step"] ["step"] (ax pY):=by walk_at "sc"
theorem zf6(F:Fun K "folded" "folded" pY f fd):FnOk P w K mg base CX0 1 f fd ["step"] lm:=by
 refine F.ok ziI (λ vs H Q E h=>?_) (λ cdv A outer s H vs Q E hr h=>?_)
 ·obtain ⟨p,rfl,_⟩:=h;rfl
 ·obtain ⟨d,rfl,k⟩:=h;refine ⟨_,am (aC (dB (aQ oy (pv 0) aq (aP _)) (au e7 aq (pv 0)) (au cF (au e7 (dZ d5 aq) (pv 0)) aq))),?_⟩;refine ⟨_,rfl,_,_,rfl,rfl,_,rfl,?_⟩;by_cases e:0<=d
  ·rw [aN e];refine aE ⟨_,rfl,_,_,rfl,rfl,.inl ⟨by decide,by decide⟩,?_⟩;show Q (.int (2 * d)) H;rw [show 2 * d=bV d by simp [bV,e]];exact k
  ·rw [aK e];refine ay ⟨_,rfl,_,rfl,_,_,rfl,rfl,.inl ⟨by decide,by decide⟩,_,_,rfl,rfl,?_⟩;show Q (.int (-2 * d - 1)) H;rw [show -2 * d - 1=bV d by simp [bV,e]];exact k
noncomputable def Ty.addNum(y:Ty)(i:Int):Ty:={ y with
 least:=some (fZ y.least i),greatest:=some (eE y.greatest i),
 widest:=if 0 < y.length/\y.none=false then (if bV (i - y.last.getD 0) > y.widest then bV (i - y.last.getD 0) else y.widest) else y.widest }
theorem zjK(h:0 < xs.length)(hn:(av xs).none=false):∃ j,(av xs).last=some j:=by
 have e:=zjJ (xs:=xs) (n:=xs.length - 1) (by omega);rw [show xs.length - 1+1=xs.length by omega,bd] at e;cases q:at' xs (xs.length - 1) with
 | some j=>exact ⟨j,by rw [e,q]⟩
 | none=>
  have m : .none∈xs:=by
   rw [← q];have:xs.length - 1 < xs.length:=by omega
   unfold at';simp [List.getD,this]
  have:=(yB xs.length (Nat.le_refl _)).mpr (by rwa [bd]);rw [bd,hn] at this;cases this
noncomputable def e9(d:Addr)(y:Ty):List (Str × V):=[("length", .int y.length),("last", ov y.last),("runs", .int y.runs),("book", .ref d),("has_none", .bl y.none),("least", ov y.least),("greatest", ov y.greatest),("widest", .int y.widest)]
noncomputable def bk(l:List OI):List (Key × V):=l.map λ o=>(Sum.inl o,.bl true)
structure eR (C:Addr) (H:Hp) (p d:Addr) (y:Ty):Prop where
 ob:∃ dx,H p=some (.ins C dx (e9 d y))
 dc:H d=some (.dK (bk y.book))
theorem zhd(o:OI):ov o=kV (Sum.inl o):=by cases o <;> rfl
theorem zaQ(l:List OI)(v:OI):cC (bk l) (Sum.inl v) (.bl true)=bk (if v∈l then l else l++[v]):=by
 unfold cC bk;by_cases h:v∈l
 ·rw [if_pos h,if_pos]
  ·rw [List.map_map];apply List.map_congr_left;intro o _;dsimp only [Function.comp]
   split <;> rfl
  ·rw [List.any_map,List.any_eq_true];exact ⟨v,h,by simp⟩
 ·rw [if_neg h,if_neg]
  ·rw [aJ];rfl
  ·rw [List.any_map,List.any_eq_true];rintro ⟨o,ho,e⟩;have e':(Sum.inl o:Key)=Sum.inl v:=of_decide_eq_true e;exact h (Sum.inl.inj e' ▸ ho)
noncomputable def rA(C:Addr):Sp:=λ vs H Q _=>∃ (p dx:Addr),vs=[.ref p]/\H p=some (.ins C dx [])/\∀ (d:Addr) (H':Hp),H d=none->eR C H' p d Ty.zero->(∀ b,b≠p->b≠d->H' b=H b)->Q .non H'
theorem ziK:aB ["self"] ["self"] (ax pq):=by walk_at "sc"
theorem zgb(T:Txt K mg t)(F:Fun K "__init__" "Tally.__init__" pq f fd):FnOk P w K mg base CX0 1 f fd ["self"] (rA t.aw):=by
 refine F.ok ziK (λ vs H Q E h=>?_) (λ cdv A outer s H vs Q E hr h=>?_)
 ·obtain ⟨p,dx,rfl,_⟩:=h;rfl
 ·obtain ⟨p,dx,rfl,hp,k⟩:=h;refine ⟨_,ao (cB (pv 0) aq rfl) (ao (cB (pv 0) bx rfl) (ao (cB (pv 0) aq rfl) (ao (cB (pv 0) jx rfl) (ao (cB (pv 0) eF rfl)
   (ao (cB (pv 0) bx rfl) (ao (cB (pv 0) bx rfl) (am (cB (pv 0) aq rfl)))))))),?_⟩
  refine ⟨_,rfl,p,t.aw,dx,_,rfl,hp,T.aT,T.fk,by show 0 < 1000;decide,?_⟩;refine ⟨_,rfl,p,t.aw,dx,_,rfl,ah,T.aT,T.jd,by show 1 < 1000;decide,?_⟩;refine ⟨_,rfl,p,t.aw,dx,_,rfl,ah,T.aT,T.j4,by show 2 < 1000;decide,?_⟩;intro d hd;have npd:p≠d:=λ z=>by rw [z] at hd;rw [ah] at hd;cases hd
  refine ⟨_,rfl,p,t.aw,dx,_,rfl,(by rw [ag npd];exact ah),T.aT,T.mD,by show 3 < 1000;decide,?_⟩;refine ⟨_,rfl,p,t.aw,dx,_,rfl,ah,T.aT,T.j0,by show 4 < 1000;decide,?_⟩;refine ⟨_,rfl,p,t.aw,dx,_,rfl,ah,T.aT,T.gO,by show 5 < 1000;decide,?_⟩;refine ⟨_,rfl,p,t.aw,dx,_,rfl,ah,T.aT,T.iJ,by show 6 < 1000;decide,?_⟩;refine ⟨_,rfl,p,t.aw,dx,_,rfl,ah,T.aT,T.j5,by show 7 < 1000;decide,?_⟩;refine k d _ ?_ ⟨⟨dx,ah⟩,?_⟩ λ b h1 h2=>?_
  ·rw [ag npd.symm,ag npd.symm,ag npd.symm] at hd;exact hd
  ·rw [ag npd.symm,ag npd.symm,ag npd.symm,ag npd.symm,ag npd.symm,ah];rfl
  ·rw [ag h1,ag h1,ag h1,ag h1,ag h1,ag h2,ag h1,ag h1,ag h1]
noncomputable def rf(C:Addr):Sp:=λ vs H Q _=>∃ (p d dx:Addr) (y:Ty) (i:Int),vs=[.ref p,.int i]/\H p=some (.ins C dx (e9 d y))/\(0 < y.length->y.none=false->∃ j,y.last=some j)/\
 ∀ H':Hp,H' p=some (.ins C dx (e9 d (y.addNum i)))->(∀ b,b≠p->H' b=H b)->Q .non H'
noncomputable def ts3(K:W.Frag):TS:=lC (yj (iq (tOp (rI0 λ i j=>.bl (decide (j < i))) (gm K (cj 0) "length") (tC (.int 0)))) (yr (tB (gm K (cj 0) "has_none"))))
 (jG K (cj 0) (tCB (λ xs H Q=>∃ i j,xs=[.int i,.int j]/\Q (.int (if j > i then j else i)) H) (gK (gm K (cj 0) "widest") (gK (lA lm [] E0 (gK (tOp (rI0 λ i j=>.int (i - j)) (cj 1) (gm K (cj 0) "last")) dQ)) dQ))) "widest") rR
noncomputable def ts2(K:W.Frag):TS:=ip (lC (tOr (iq (tOp (λ x y H Q=>y = .non/\Q (.bl (decide (x = .non))) H) (gm K (cj 0) "greatest") (tC .non))) (iq (tOp (rI0 λ i j=>.bl (decide (j < i))) (cj 1) (gm K (cj 0) "greatest"))))
 (jG K (cj 0) (cj 1) "greatest") rR) (ts3 K)
noncomputable def Ty.w3(y:Ty)(i:Int):Ty:={ y with widest:=if 0 < y.length/\y.none=false then (if bV (i - y.last.getD 0) > y.widest then bV (i - y.last.getD 0) else y.widest) else y.widest }
theorem mF{p:Addr}{i:Int}(T:Txt K mg t)(hlast:0 < y.length->y.none=false->∃ j,y.last=some j)(h2:H2 p=some (.ins t.aw dx (e9 d y)))(hb:∀ b,b≠p->H2 b=H b)(k:∀ H':Hp,H' p=some (.ins t.aw dx (e9 d (Ty.w3 y i)))->(∀ b,b≠p->H' b=H b)->Q .non H'):
  ts3 K { nx:=λ _ H'=>Q .non H',rt:=Q } [some (.ref p),some (.int i)] H2:=by
 have same:y={ y with widest:=y.widest }:=by cases y;rfl
 refine ⟨_,rfl,p,t.aw,dx,_,_,rfl,h2,T.aT,T.fk,rfl,_,_,rfl,rfl,_,rfl,?_⟩;by_cases hl:0 < y.length
 ·rw [aN (show (0:Int) < (y.length:Int) by omega)];refine aE ⟨_,rfl,p,t.aw,dx,_,_,rfl,h2,T.aT,T.j0,rfl,_,rfl,?_⟩;cases en:y.none with
  | true=>
   refine ay (k H2 ?_ hb);have:Ty.w3 y i=y:=by
    cases y
    simp_all [Ty.w3]
   rw [this];exact h2
  | false=>
   refine aE ?_;obtain ⟨j,hj⟩:=hlast hl en;refine ⟨_,rfl,p,t.aw,dx,_,_,rfl,h2,T.aT,T.j5,rfl,_,rfl,_,rfl,p,t.aw,dx,_,_,rfl,h2,T.aT,T.jd,rfl,_,_,rfl,(by rw [hj];rfl),i - j,rfl,_,_,rfl,_,rfl,p,t.aw,dx,_,rfl,h2,T.aT,T.j5,by show 8 < 1000;decide,?_⟩;refine k _ ?_ λ b hbp=>by rw [ag hbp];exact hb b hbp
   have ew:Ty.w3 y i={ y with widest:=if bV (i - j) > y.widest then bV (i - j) else y.widest }:=by simp [Ty.w3,en,hl,hj]
   rw [ah,ew];rfl
 ·rw [aK (show ¬ (0:Int) < (y.length:Int) by omega)];refine ay (ay (k H2 ?_ hb));have:Ty.w3 y i=y:=by
   cases y
   simp_all [Ty.w3]
  rw [this];exact h2
theorem mE{p:Addr}{y1:Ty}{i:Int}(T:Txt K mg t)(hlast:0 < y.length->y.none=false->∃ j,y.last=some j)(e1:y1.length=y.length)(e2:y1.none=y.none)(e3:y1.last=y.last)(e4:y1.widest=y.widest)(e5:y1.greatest=y.greatest)(h1:H1 p=some (.ins t.aw dx (e9 d y1)))(hb:∀ b,b≠p->H1 b=H b)(k:∀ H':Hp,H' p=some (.ins t.aw dx (e9 d (Ty.w3 { y1 with greatest:=some (eE y.greatest i) } i)))->(∀ b,b≠p->H' b=H b)->Q .non H'):
  ts2 K { nx:=λ _ H'=>Q .non H',rt:=Q } [some (.ref p),some (.int i)] H1:=by
 refine ⟨_,rfl,p,t.aw,dx,_,_,rfl,h1,T.aT,T.iJ,rfl,rfl,_,rfl,?_⟩;cases el:y1.greatest with
 | none=>
  refine aE (aE ⟨_,rfl,_,rfl,p,t.aw,dx,_,rfl,h1,T.aT,T.iJ,by show 8 < 1000;decide,?_⟩);refine mF (y:={ y1 with greatest:=some i }) (H:=H) T (λ a b=>by obtain ⟨j,q⟩:=hlast (e1 ▸ a) (e2 ▸ b);exact ⟨j,e3.trans q⟩) ah (λ b hb'=>by rw [ag hb'];exact hb b hb') ?_;have:eE y.greatest i=i:=by rw [← e5,el];rfl
  rw [this] at k;exact k
 | some m=>
  refine ay ⟨_,rfl,_,rfl,p,t.aw,dx,_,_,rfl,h1,T.aT,T.iJ,rfl,_,_,rfl,(by rw [el];rfl),_,rfl,?_⟩;by_cases hm:m < i
  ·rw [aN hm];refine aE ⟨_,rfl,_,rfl,p,t.aw,dx,_,rfl,h1,T.aT,T.iJ,by show 8 < 1000;decide,?_⟩;refine mF (y:={ y1 with greatest:=some i }) (H:=H) T (λ a b=>by obtain ⟨j,q⟩:=hlast (e1 ▸ a) (e2 ▸ b);exact ⟨j,e3.trans q⟩) ah (λ b hb'=>by rw [ag hb'];exact hb b hb') ?_;have:eE y.greatest i=i:=by rw [← e5,el];simp [eE,hm]
   rw [this] at k;exact k
  ·rw [aK hm];refine ay ?_;refine mF (y:=y1) (H:=H) T (λ a b=>by obtain ⟨j,q⟩:=hlast (e1 ▸ a) (e2 ▸ b);exact ⟨j,e3.trans q⟩) h1 hb ?_;have:({ y1 with greatest:=some (eE y.greatest i) }:Ty)=y1:=by
    have:eE y.greatest i=m:=by rw [← e5,el];simp [eE,hm]
    rw [this,← el]
   rw [this] at k;exact k
theorem ziy:aB ["self", "number"] ["self", "number"] (ax pj):=by walk_at "sc"
theorem zfO(T:Txt K mg t)(C1:Cal P w K mg base CX0 1 "folded" ["step"] lm)(F:Fun K "add_number" "Tally.add_number" pj f fd):FnOk P w K mg base CX0 3 f fd ["self", "number"] (rf t.aw):=by
 refine F.ok ziy (λ vs H Q E h=>?_) (λ cdv A outer s H vs Q E hr h=>?_)
 ·obtain ⟨p,d,dx,y,i,rfl,_⟩:=h;rfl
 ·obtain ⟨p,d,dx,y,i,rfl,hp,hlast,k⟩:=h;refine ⟨_,ao (a8 (hZ (aQ dM (cG (pv 0) rfl) bx (aP _)) (ie (aQ oz (pv 1) (cG (pv 0) rfl) (aP _)))).pt (am (cB (pv 0) (pv 1) rfl)) bq)
   (ao (a8 (hZ (aQ dM (cG (pv 0) rfl) bx (aP _)) (ie (aQ gB (pv 1) (cG (pv 0) rfl) (aP _)))).pt (am (cB (pv 0) (pv 1) rfl)) bq)
   (am (a8 (jB (aQ gB (cG (pv 0) rfl) aq (aP _)) (jC (fG (fg (cG (pv 0) rfl))))).pt
    (am (cB (pv 0) (aR (zaY rfl) (by rfl) T.oj PyProof.Rows.Boot.«max» (aa (cG (pv 0) rfl) (aa (C1.pe hr az (aa (au cF (pv 1) (cG (pv 0) rfl)) ae)) ae))) rfl)) bq))),?_⟩
  -- if self.least is None or number < self.least: self.least=number
  refine ⟨_,rfl,p,t.aw,dx,_,_,rfl,hp,T.aT,T.gO,rfl,rfl,_,rfl,?_⟩;cases el:y.least with
  | none=>
   refine aE (aE ⟨_,rfl,_,rfl,p,t.aw,dx,_,rfl,hp,T.aT,T.gO,by show 8 < 1000;decide,?_⟩);exact mE T hlast (y1:={ y with least:=some i }) rfl rfl rfl rfl rfl ah (λ b hb=>ag hb) λ H' h1 h2=>k H' (by rw [h1];simp [Ty.addNum,Ty.w3,el,fZ]) h2
  | some m=>
   refine ay ⟨_,rfl,_,rfl,p,t.aw,dx,_,_,rfl,hp,T.aT,T.gO,rfl,_,_,rfl,(by rw [el];rfl),_,rfl,?_⟩;by_cases hm:i < m
   ·rw [aN hm];refine aE ⟨_,rfl,_,rfl,p,t.aw,dx,_,rfl,hp,T.aT,T.gO,by show 8 < 1000;decide,?_⟩;exact mE T hlast (y1:={ y with least:=some i }) rfl rfl rfl rfl rfl ah (λ b hb=>ag hb) λ H' h1 h2=>k H' (by rw [h1];simp [Ty.addNum,Ty.w3,el,fZ,hm]) h2
   ·rw [aK hm];refine ay ?_;exact mE T hlast (y1:=y) rfl rfl rfl rfl rfl hp (λ b _=>rfl) λ H' h1 h2=>k H' (by rw [h1];simp [Ty.addNum,Ty.w3,el,fZ,hm]) h2
noncomputable def gX(y:Ty):Int:=match y.least,y.greatest with | some a,some b=>b - a+1 | _,_=>0
noncomputable def db(y:Ty):List OI:=[some (24 * (y.length:Int)),some (8+(24+8) * (y.runs:Int)),(if 64 < y.book.length then .none else some (6+24 * (y.book.length:Int)+(aL (y.book.length - 1):Int) * y.length)),
 some (24+5+(aL (gX y).toNat:Int) * y.length),(if y.none=true then .none else some (24+5+(aL y.widest.toNat:Int) * ((y.length:Int) - 1)))]
noncomputable def gL:OI->OI
 | .none=>.none
 | .some b=>some (3+8+b)
noncomputable def bK(y:Ty):List OI:=(db y).map gL
structure YOk (y:Ty):Prop where
 pos:0 < y.book.length
 bl:y.book.length<=1000
 len:y.length<=1000
 hi:(y.least = .none/\y.greatest = .none)\/∃ a b,y.least=some a/\y.greatest=some b/\a<=b
 wid:0<=y.widest
theorem jt(h:l≠[]):∃ m,cz l=some m:=by
 cases l with
 | nil=>exact absurd rfl h
 | cons x r=>exact ⟨_,rfl⟩
noncomputable def tsA(K:W.Frag)(C:Addr):TS:=ip (xf (gm K (cj 0) "book") (cj 1) (tC (.bl true))) (ip (lC (iq (tOp (λ x y H Q=>y = .non/\Q (.bl (decide (x = .non))) H) (cj 1) (tC .non)))
 (jG K (cj 0) (tC (.bl true)) "has_none") (yp (rQ C "add_number" (rf C) [] E0 (cj 0) (gK (cj 1) dQ)))) (ip (jG K (cj 0) (cj 1) "last") (xg K (cj 0) (tC (.int 1)) wQ "length")))
theorem sV{p:Addr}{r:Nat}(T:Txt K mg t)(hlast:0 < y.length->y.none=false->∃ j,y.last=some j)(hbl:y.book.length<=1000)(h1:H1 p=some (.ins t.aw dx (e9 d { y with runs:=r })))(hd:H1 d=some (.dK (bk y.book)))(hb:∀ b,b≠p->b≠d->H1 b=H b)(k:∀ H':Hp,H' p=some (.ins t.aw dx (e9 d { (y.add v) with runs:=r }))->H' d=some (.dK (bk (y.add v).book))->(∀ b,b≠p->b≠d->H' b=H b)->Q .non H'):
  tsA K t.aw { nx:=λ _ H'=>Q .non H',rt:=Q } [some (.ref p),some (ov v)] H1:=by
 have npd:p≠d:=cZ h1 hd (by intro z;cases z);have hl1:(bk y.book).length < sizeLine:=by rw [show (bk y.book).length=y.book.length by simp [bk]];exact br hbl
 refine ⟨_,rfl,p,t.aw,dx,_,_,rfl,h1,T.aT,T.mD,rfl,_,rfl,d,_,rfl,(by rw [zhd];exact DPut.k (k:=Sum.inl v) hd hl1),?_⟩;have h2:(upd H1 d (.dK (cC (bk y.book) (Sum.inl v) (.bl true)))) p=some (.ins t.aw dx (e9 d { y with runs:=r })):=by rw [ag npd];exact h1
 have hd2:(upd H1 d (.dK (cC (bk y.book) (Sum.inl v) (.bl true)))) d=some (.dK (bk (y.add v).book)):=by rw [ah,zaQ];rfl
 have hb2:∀ b,b≠p->b≠d->(upd H1 d (.dK (cC (bk y.book) (Sum.inl v) (.bl true)))) b=H b:=λ b e1 e2=>by rw [ag e2];exact hb b e1 e2
 generalize (upd H1 d (.dK (cC (bk y.book) (Sum.inl v) (.bl true))))=H2 at h2 hd2 hb2 ⊢;refine ⟨_,rfl,rfl,_,rfl,?_⟩;cases v with
 | none=>
  refine aE ⟨_,rfl,p,t.aw,dx,_,rfl,h2,T.aT,T.j0,by show 8 < 1000;decide,?_⟩;refine ⟨_,rfl,_,rfl,p,t.aw,dx,_,rfl,ah,T.aT,T.jd,by show 8 < 1000;decide,?_⟩;refine ⟨_,rfl,p,t.aw,dx,_,_,rfl,ah,T.aT,T.fk,rfl,_,_,rfl,rfl,dx,_,ah,by show 8 < 1000;decide,?_⟩;refine k _ ah ?_ λ b e1 e2=>?_
  ·rw [ag npd.symm,ag npd.symm,ag npd.symm];exact hd2
  ·rw [ag e1,ag e1,ag e1];exact hb2 b e1 e2
 | some i=>
  refine ay ⟨_,rfl,p,dx,_,rfl,h2,rfl,_,rfl,p,d,dx,{ y with runs:=r },i,rfl,h2,hlast,λ H3 h3 hb3=>?_⟩;have hd3:H3 d=some (.dK (bk (y.add (some i)).book)):=by rw [hb3 d npd.symm];exact hd2
  refine ⟨_,rfl,_,rfl,p,t.aw,dx,_,rfl,h3,T.aT,T.jd,by show 8 < 1000;decide,?_⟩;refine ⟨_,rfl,p,t.aw,dx,_,_,rfl,ah,T.aT,T.fk,rfl,_,_,rfl,rfl,dx,_,ah,by show 8 < 1000;decide,?_⟩;refine k _ ?_ ?_ λ b e1 e2=>?_
  ·rw [ah];have e:({ y with runs:=r }:Ty).addNum i={ y with runs:=r,least:=some (fZ y.least i),greatest:=some (eE y.greatest i),widest:=(y.add (some i)).widest }:=rfl;rw [e];simp [Ty.add];rfl
  ·rw [ag npd.symm,ag npd.symm];exact hd3
  ·rw [ag e1,ag e1,hb3 b e1];exact hb2 b e1 e2
noncomputable def re(C:Addr):Sp:=λ vs H Q _=>∃ (p d:Addr) (xs:List OI) (v:OI),vs=[.ref p,ov v]/\eR C H p d (av xs)/\xs.length<=1000/\
 ∀ H':Hp,eR C H' p d (av (xs++[v]))->(∀ b,b≠p->b≠d->H' b=H b)->Q .non H'
theorem zix:aB ["self", "value"] ["self", "value"] (ax pi):=by walk_at "sc"
theorem zjI(xs:List OI):(av xs).book.length<=xs.length:=by
 have:=rV xs.length (Nat.le_refl _);rw [bd] at this;rw [this];exact ng _ _
theorem zfN(T:Txt K mg t)(C1:bn P w K mg base CX0 3 t.aw "add_number" ["self", "number"] (rf t.aw))(F:Fun K "add" "Tally.add" pi f fd):FnOk P w K mg base CX0 4 f fd ["self", "value"] (re t.aw):=by
 obtain ⟨f1,fd1,G1,m1,b1⟩:=C1;refine F.ok zix (λ vs H Q E h=>?_) (λ cdv A outer s H vs Q E hr h=>?_)
 ·obtain ⟨p,d,y,i,rfl,_⟩:=h;rfl
 ·obtain ⟨p,d,xs,v,rfl,⟨⟨dx,hp⟩,hd⟩,hl,k⟩:=h;have hu:=jo hr;have hll:=yA xs;have hlast:0 < (av xs).length->(av xs).none=false->∃ j,(av xs).last=some j:=λ a b=>zjK (by omega) b;have hbl:=Nat.le_trans (zjI xs) hl;rw [yC] at k;refine ⟨_,ao (a8 (hZ (aQ c6 (cG (pv 0) rfl) aq (aP _)) (ie (aQ dY (pv 1) (cG (pv 0) rfl) (aP _)))).pt (am (oM (pv 0) aq nE)) bq)
   (ao (oK hu (cG (pv 0) rfl) (pv 1) eF rfl)
   (ao (a8 (aQ dM (pv 1) bx (aP _)) (am (cB (pv 0) eF rfl)) (am (bP (bJ (pv 0) T.aT m1 G1 hr b1 .nil az (aa (pv 1) ae)))))
   (ao (cB (pv 0) (pv 1) rfl) (am (oM (pv 0) aq nE))))),?_⟩
  refine ⟨_,rfl,p,t.aw,dx,_,_,rfl,hp,T.aT,T.fk,rfl,rfl,_,rfl,?_⟩
  -- one run more
  have more:(av xs).length=0\/v≠(av xs).last->∀ H1,H1 p=some (.ins t.aw dx (e9 d { (av xs) with runs:=(av xs).runs+1 }))->(∀ b,b≠p->H1 b=H b)->
    tsA K t.aw { nx:=λ _ H'=>Q .non H',rt:=Q } [some (.ref p),some (ov v)] H1:=λ c H1 h1 hb1=>by
   have npd:p≠d:=cZ hp hd (by intro z;cases z);refine sV T hlast hbl h1 (by rw [hb1 d npd.symm];exact hd) (λ b e1 _=>hb1 b e1) λ H' g1 g2 g3=>k H' ⟨⟨dx,?_⟩,g2⟩ g3;rw [g1];have:((av xs).add v).runs=(av xs).runs+1:=by simp only [Ty.add];rw [if_pos c]
   rw [← this]
  by_cases c0:(av xs).length=0
  ·rw [aN (show V.int ((av xs).length:Int)=V.int 0 by rw [c0];rfl)];refine aE (aE ⟨_,rfl,p,t.aw,dx,_,_,rfl,hp,T.aT,T.j4,rfl,_,_,rfl,rfl,dx,_,hp,by show 8 < 1000;decide,?_⟩);exact more (.inl c0) _ ah λ b hb=>ag hb
  ·rw [aK (show ¬ V.int ((av xs).length:Int)=V.int 0 by intro z;injection z with z;omega)];refine ay ⟨_,rfl,_,rfl,p,t.aw,dx,_,_,rfl,hp,T.aT,T.jd,rfl,gC _ _,_,rfl,?_⟩;rw [ww];by_cases c1:v=(av xs).last
   ·rw [aN c1];refine ay ?_;refine sV (r:=(av xs).runs) T hlast hbl hp hd (λ b _ _=>rfl) λ H' g1 g2 g3=>k H' ⟨⟨dx,?_⟩,g2⟩ g3;rw [g1];have:((av xs).add v).runs=(av xs).runs:=by
     simp only [Ty.add];rw [if_neg (λ z=>z.elim c0 λ z=>z c1)]
    rw [← this]
   ·rw [aK c1];refine aE ⟨_,rfl,p,t.aw,dx,_,_,rfl,hp,T.aT,T.j4,rfl,_,_,rfl,rfl,dx,_,hp,by show 8 < 1000;decide,?_⟩;exact more (.inr c1) _ ah λ b hb=>ag hb
noncomputable def i5(C:Addr)(g:Ty->OI):Sp:=λ vs H Q _=>∃ (p d:Addr) (y:Ty),vs=[.ref p]/\eR C H p d y/\YOk y/\Q (ov (g y)) H
theorem sc_book_room:aB ["self", "entries"] ["self"] (ax pp):=by walk_at "sc"
theorem n9{i:Int}(h:n<=1000):CMul i (n:Int):=.inr ⟨by omega,by omega⟩
theorem zfX(T:Txt K mg t)(C1:Cal P w K mg base CX0 1 "needed" ["number"] io)(F:Fun K "book_room" "Tally.book_room" pp f fd):
  FnOk P w K mg base CX0 3 f fd ["self"] (i5 t.aw λ y=>if 64 < y.book.length then .none else some (6+24 * (y.book.length:Int)+(aL (y.book.length - 1):Int) * y.length)):=by
 refine F.ok sc_book_room (λ vs H Q E h=>?_) (λ cdv A outer s H vs Q E hr h=>?_)
 ·obtain ⟨p,d,y,rfl,_⟩:=h;rfl
 ·obtain ⟨p,d,y,rfl,⟨⟨dx,hp⟩,hd⟩,Y,k⟩:=h;dsimp only at k;refine ⟨_,ao (aI (i:=1) sc_book_room.nd rfl (Or.inl rfl) (aR jh (by rfl) T.bH PyProof.Rows.Boot.«len» (aa (cG (pv 0) rfl) ae)))
   (ao (a8 (aQ gB (pv 1) (bo T.zb8) (aP _)) (am (aC bx)) bq)
   (am (aC (au bv (au bv (bo T.nu) (au e7 (bo T.fW) (pv 1))) (au e7 (C1.pe hr az (aa (au cF (pv 1) aq) ae)) (cG (pv 0) rfl)))))),?_⟩
  have el:(bk y.book).length=y.book.length:=by simp [bk]
  refine ⟨_,rfl,p,t.aw,dx,_,_,rfl,hp,T.aT,T.mD,rfl,d,_,rfl,hd,?_⟩;rw [el];refine ⟨_,rfl,_,_,rfl,rfl,_,rfl,?_⟩;by_cases c:64 < y.book.length
  ·rw [aN (show (64:Int) < (y.book.length:Int) by omega)];refine aE ?_;rw [if_pos c] at k;exact k
  ·rw [aK (show ¬ (64:Int) < (y.book.length:Int) by omega)];rw [if_neg c] at k;refine ay ⟨_,rfl,_,_,rfl,rfl,.inl ⟨by decide,by decide⟩,_,_,rfl,rfl,_,rfl,_,_,rfl,rfl,_,rfl,?_,?_⟩
   ·have:=Y.pos;omega
   refine ⟨_,rfl,p,t.aw,dx,_,_,rfl,hp,T.aT,T.fk,rfl,_,_,rfl,rfl,n9 Y.len,_,_,rfl,rfl,?_⟩;have e:((y.book.length:Int) - 1).toNat=y.book.length - 1:=by omega
   show Q _ _;rw [e];exact k
theorem sc_base_room:aB ["self", "highest"] ["self"] (ax pk):=by walk_at "sc"
theorem zfR(T:Txt K mg t)(C1:Cal P w K mg base CX0 1 "needed" ["number"] io)(F:Fun K "base_room" "Tally.base_room" pk f fd):
  FnOk P w K mg base CX0 3 f fd ["self"] (i5 t.aw λ y=>some (24+5+(aL (gX y).toNat:Int) * y.length)):=by
 refine F.ok sc_base_room (λ vs H Q E h=>?_) (λ cdv A outer s H vs Q E hr h=>?_)
 ·obtain ⟨p,d,y,rfl,_⟩:=h;rfl
 ·obtain ⟨p,d,y,rfl,⟨⟨dx,hp⟩,hd⟩,Y,k⟩:=h;dsimp only at k;refine ⟨_,ao (aI (i:=1) sc_base_room.nd rfl (Or.inl rfl) (dB (aQ dM (cG (pv 0) rfl) bx (aP _)) aq (au bv (au cF (cG (pv 0) rfl) (cG (pv 0) rfl)) aq)))
   (am (aC (au bv (au bv (bo T.fW) (bo T.jm)) (au e7 (C1.pe hr az (aa (pv 1) ae)) (cG (pv 0) rfl))))),?_⟩
  refine ⟨_,rfl,p,t.aw,dx,_,_,rfl,hp,T.aT,T.gO,rfl,rfl,_,rfl,?_⟩;rcases Y.hi with ⟨c1,c2⟩ | ⟨a,b,c1,c2,hab⟩
  ·rw [c1];refine aE ?_;have e:gX y=0:=by simp [gX,c1]
   rw [e] at k;refine ⟨_,_,rfl,rfl,_,rfl,_,rfl,by decide,_,rfl,p,t.aw,dx,_,_,rfl,hp,T.aT,T.fk,rfl,_,_,rfl,rfl,n9 Y.len,_,_,rfl,rfl,?_⟩;exact k
  ·rw [c1];refine ay ?_;have e:gX y=b - a+1:=by simp [gX,c1,c2]
   rw [e] at k;refine ⟨_,rfl,p,t.aw,dx,_,_,rfl,hp,T.aT,T.iJ,rfl,_,rfl,p,t.aw,dx,_,_,rfl,hp,T.aT,T.gO,rfl,_,_,(by rw [c2];rfl),(by rw [c1];rfl),_,_,rfl,rfl,?_⟩;refine ⟨_,_,rfl,rfl,_,rfl,_,rfl,by omega,_,rfl,p,t.aw,dx,_,_,rfl,hp,T.aT,T.fk,rfl,_,_,rfl,rfl,n9 Y.len,_,_,rfl,rfl,?_⟩;exact k
theorem ziZ:aB ["self"] ["self"] (ax pA):=by walk_at "sc"
theorem zgQ(T:Txt K mg t)(C1:Cal P w K mg base CX0 1 "needed" ["number"] io)(F:Fun K "steps_room" "Tally.steps_room" pA f fd):
  FnOk P w K mg base CX0 3 f fd ["self"] (i5 t.aw λ y=>if y.none=true then .none else some (24+5+(aL y.widest.toNat:Int) * ((y.length:Int) - 1))):=by
 refine F.ok ziZ (λ vs H Q E h=>?_) (λ cdv A outer s H vs Q E hr h=>?_)
 ·obtain ⟨p,d,y,rfl,_⟩:=h;rfl
 ·obtain ⟨p,d,y,rfl,⟨⟨dx,hp⟩,hd⟩,Y,k⟩:=h;dsimp only at k;refine ⟨_,ao (a8 (fg (cG (pv 0) rfl)) (am (aC bx)) bq)
   (am (aC (au bv (au bv (bo T.fW) (bo T.jm)) (au e7 (C1.pe hr az (aa (cG (pv 0) rfl) ae)) (au cF (cG (pv 0) rfl) aq))))),?_⟩
  refine ⟨_,rfl,p,t.aw,dx,_,_,rfl,hp,T.aT,T.j0,rfl,_,rfl,?_⟩;cases c:y.none with
  | true=>
   rw [if_pos c] at k;exact aE k
  | false=>
   rw [if_neg (by rw [c];exact bz)] at k;have yl:=Y.len;refine ay ⟨_,_,rfl,rfl,_,rfl,p,t.aw,dx,_,_,rfl,hp,T.aT,T.j5,rfl,_,rfl,Y.wid,_,rfl,p,t.aw,dx,_,_,rfl,hp,T.aT,T.fk,rfl,_,_,rfl,rfl,_,_,rfl,rfl,.inr ⟨by omega,by omega⟩,_,_,rfl,rfl,?_⟩;exact k
noncomputable def lx(C:Addr):Sp:=λ vs H Q _=>∃ (p d:Addr) (y:Ty),vs=[.ref p]/\eR C H p d y/\YOk y/\∀ (l:Addr) (H':Hp),Same H H'->H l=none->H' l=some (.lst ((bK y).map ov))->Q (.ref l) H'
theorem sc_rooms:aB ["self", "bodies"] ["self"] (ax pz):=by walk_at "sc"
theorem ze1:(["body"]:List Str).Nodup:=by decide +kernel
theorem zgK(T:Txt K mg t)(C1:bn P w K mg base CX0 3 t.aw "book_room" ["self"] (i5 t.aw λ y=>if 64 < y.book.length then .none else some (6+24 * (y.book.length:Int)+(aL (y.book.length - 1):Int) * y.length)))(C2:bn P w K mg base CX0 3 t.aw "base_room" ["self"] (i5 t.aw λ y=>some (24+5+(aL (gX y).toNat:Int) * y.length)))(C3:bn P w K mg base CX0 3 t.aw "steps_room" ["self"] (i5 t.aw λ y=>if y.none=true then .none else some (24+5+(aL y.widest.toNat:Int) * ((y.length:Int) - 1))))(F:Fun K "rooms" "Tally.rooms" pz f fd):FnOk P w K mg base CX0 4 f fd ["self"] (lx t.aw):=by
 obtain ⟨f1,fd1,G1,m1,b1⟩:=C1;obtain ⟨f2,fd2,G2,m2,b2⟩:=C2;obtain ⟨f3,fd3,G3,m3,b3⟩:=C3;refine F.ok sc_rooms (λ vs H Q E h=>?_) (λ cdv A outer s H vs Q E hr h=>?_)
 ·obtain ⟨p,d,y,rfl,_⟩:=h;rfl
 ·obtain ⟨p,d,y,rfl,TA,Y,k⟩:=h;obtain ⟨⟨dx,hp⟩,hd⟩:=id TA;refine ⟨_,ao (aI (i:=1) sc_rooms.nd rfl (Or.inl rfl) (bD (aa (au e7 (bo T.fW) (cG (pv 0) rfl)) (aa (au bv (bo T.ny) (au e7 (au bv (bo T.fW) (bo T.nA)) (cG (pv 0) rfl)))
    (aa (c8 (pv 0) T.aT m1 G1 hr b1 .nil az) (aa (c8 (pv 0) T.aT m2 G2 hr b2 .nil az) (aa (c8 (pv 0) T.aT m3 G3 hr b3 .nil az) ae)))))))
   (am (aC (kW (N:=["body"]) (fr:=[none]) ⟨rfl,rfl,rfl,rfl,rfl,rfl⟩ rfl (cH (pv 1))
    (λ C fp s H=>⟨aU (i:=0) ze1 rfl (Or.inl rfl),bZ,dB (aQ dM (pv 0) bx (aP _)) bx (au bv (au bv (bo T.nv) (bo T.nw)) (pv 0))⟩)))),?_⟩
  refine ⟨_,rfl,p,t.aw,dx,_,_,rfl,hp,T.aT,T.fk,rfl,_,_,rfl,rfl,.inl ⟨by decide,by decide⟩,?_⟩;refine ⟨_,_,rfl,rfl,_,rfl,p,t.aw,dx,_,_,rfl,hp,T.aT,T.j4,rfl,_,_,rfl,rfl,.inl ⟨by decide,by decide⟩,_,_,rfl,rfl,?_⟩;refine ⟨_,rfl,p,dx,_,rfl,hp,rfl,p,d,y,rfl,TA,Y,?_⟩;refine ⟨_,rfl,p,dx,_,rfl,hp,rfl,p,d,y,rfl,TA,Y,?_⟩;refine ⟨_,rfl,p,dx,_,rfl,hp,rfl,p,d,y,rfl,TA,Y,?_⟩;refine ⟨by show 5<=sizeLine;decide,λ l hl=>?_⟩;have hb:(upd H l (.lst ((db y).map ov))) l=some (.lst ((db y).map ov)):=ah;have s0:Same H (upd H l (.lst ((db y).map ov))):=aM (Same.refl H) hl;refine ⟨_,rfl,l,rfl,⟨_,.of hb⟩,de (xs:=(db y).map ov) (λ i acc H'=>Same (upd H l (.lst ((db y).map ov))) H'/\acc=(((db y).take i).map λ o=>ov (gL o))) ⟨Same.refl _,rfl⟩ ?_ ?_ ?_ ?_⟩
  ·rintro i acc H' hi ⟨s1,rfl⟩;refine ⟨.of (s1 _ _ hb),?_⟩;rw [aj,bc];omega
  ·show 5<=sizeLine;decide
  ·rintro i x acc H' hx hlt ⟨s1,rfl⟩;rw [aj] at hlt;have ex:(db y)[i]?=some (db y)[i]:=by simp [hlt]
   rw [aH,ex] at hx;cases hx;refine ⟨Wk.set rfl,tT ?_⟩;have nxt:∀ v,v=ov (gL (db y)[i])->∃ m',m' < ((db y).map ov).length - i/\CW ((db y).map ov).length (λ i acc H'=>Same (upd H l (.lst ((db y).map ov))) H'/\acc=(((db y).take i).map λ o=>ov (gL o))) (i+1) m' ((((db y).take i).map λ o=>ov (gL o))++[v]) H':=λ v e=>by
    refine cw (by rw [aj];exact hlt) ⟨s1,?_⟩;rw [List.take_add_one,ex,aJ,e];rfl
   refine ⟨_,rfl,rfl,_,rfl,?_⟩;cases e:(db y)[i] with
   | none=>
    refine aE (nxt _ ?_);rw [e];rfl
   | some z=>
    refine ay ⟨_,_,rfl,rfl,_,rfl,_,_,rfl,rfl,nxt _ ?_⟩;rw [e];rfl
  ·rintro acc H' ⟨s1,rfl⟩ q hq;refine k q _ (aM (s0.trans s1) hq) ((s0.trans s1).free hq) ?_;rw [ah,aj,bd];show some (HO.lst _)=some (HO.lst _);rw [bK,List.map_map];rfl
theorem zjM  : ∀ n,n<=xs.length->0<=(av (xs.take n)).widest:=by
 intro n;induction n with
 | zero=>intro _;simp [i7,Ty.zero]
 | succ n ih=>
  intro h;rw [gp h];have ih:=ih (by omega);show 0<=(match at' xs n with
   | .none=>(av (xs.take n)).widest
   | .some i=>if 0 < (av (xs.take n)).length/\(av (xs.take n)).none=false then (if bV (i - (av (xs.take n)).last.getD 0) > (av (xs.take n)).widest then bV (i - (av (xs.take n)).last.getD 0) else (av (xs.take n)).widest) else (av (xs.take n)).widest)
  cases at' xs n with
  | none=>exact ih
  | some i=>
   have:=nc (i - (av (xs.take n)).last.getD 0);dsimp only
   split
   ·split <;> assumption
   ·exact ih
theorem rW(h:0 < xs.length)(hl:xs.length<=1000):YOk (av xs) where
 pos:=by
  have:=rV xs.length (Nat.le_refl _);rw [bd] at this;rw [this];exact uT h
 bl:=by
  have:=rV xs.length (Nat.le_refl _);rw [bd] at this;rw [this];exact Nat.le_trans (ng _ _) hl
 len:=by rw [yA];exact hl
 hi:=by
  have:=zjL xs.length (Nat.le_refl _);rw [bd] at this;obtain ⟨h1,h2⟩:=this;rw [h1,h2];cases e:be xs with
  | nil=>exact .inl ⟨rfl,rfl⟩
  | cons x r=>
   obtain ⟨a,ha⟩:=jt (l:=x::r) (by simp);have hb:∃ b,dn (x::r)=some b:=⟨_,rfl⟩
   obtain ⟨b,hb⟩:=hb;exact .inr ⟨a,b,ha,hb,iS ha b (kD hb)⟩
 wid:=by
  have:=zjM xs.length (Nat.le_refl _)
  rwa [bd] at this
noncomputable def fix(l:List OI)(v:OI):Nat:=match l with
 | []=>0
 | x::r=>if x=v then 0 else fix r v+1
theorem uK:∀ {l:List OI} {v:OI},v∈l->l[fix l v]?=some v
 | x::r,v,h=>by
  unfold fix;by_cases e:x=v
  ·rw [if_pos e];simp [e]
  ·rw [if_neg e];have:v∈r:=by
    rcases al_mc.mp h with z | z
    ·exact absurd z.symm e
    ·exact z
   simpa using uK this
theorem uL:∀ {l:List OI} {v:OI} {m:Nat} {z:OI},m < fix l v->l[m]?=some z->z≠v
 | x::r,v,m,z,h,hz=>by
  unfold fix at h;by_cases e:x=v
  ·rw [if_pos e] at h;omega
  ·rw [if_neg e] at h;cases m with
   | zero=>simp at hz;rw [← hz];exact e
   | succ m=>exact uL (l:=r) (m:=m) (by omega) (by simpa using hz)
theorem xn  : ∃ M,cz (be (bK y))=some M/\some M∈bK y:=by
 have hne:be (bK y)≠[]:=by simp [be,bK,db,gL]
 obtain ⟨M,hM⟩:=jt hne;exact ⟨M,hM,mem_somes.mp (js hM)⟩
theorem qR{p:Addr}(s:Same H H')(h:eR C H p d y):eR C H' p d y:=by
 obtain ⟨⟨dx,h1⟩,h2⟩:=h;exact ⟨⟨dx,s _ _ h1⟩,s _ _ h2⟩
noncomputable def rE(C:Addr):Sp:=λ vs H Q _=>∃ (p d:Addr) (y:Ty) (M:Int),vs=[.ref p]/\eR C H p d y/\YOk y/\cz (be (bK y))=some M/\∀ H',Same H H'->Q (.int M) H'
theorem ziT:aB ["self"] ["self"] (ax px):=by walk_at "sc"
theorem ze5:(["found"]:List Str).Nodup:=by decide +kernel
theorem zgm(T:Txt K mg t)(C1:bn P w K mg base CX0 4 t.aw "rooms" ["self"] (lx t.aw))(F:Fun K "least_room" "Tally.least_room" px f fd):FnOk P w K mg base CX0 5 f fd ["self"] (rE t.aw):=by
 obtain ⟨f1,fd1,G1,m1,b1⟩:=C1;refine F.ok ziT (λ vs H Q E h=>?_) (λ cdv A outer s H vs Q E hr h=>?_)
 ·obtain ⟨p,d,y,M,rfl,_⟩:=h;rfl
 ·obtain ⟨p,d,y,M,rfl,TA,Y,hM,k⟩:=h;obtain ⟨⟨dx,hp⟩,hd⟩:=id TA;refine ⟨_,am (aC (aR (t5 rfl) (by rfl) T.om PyProof.Rows.Boot.«min» (aa
   (kW (N:=["found"]) (fr:=[none]) ⟨rfl,rfl,rfl,rfl,rfl,rfl⟩ rfl (cH (c8 (pv 0) T.aT m1 G1 hr b1 .nil az))
    (λ C fp s H=>⟨aU (i:=0) ze5 rfl (Or.inl rfl),wG (aQ kR (pv 0) bx (aP _)),pv 0⟩)) ae))),?_⟩
  refine ⟨_,rfl,p,dx,_,rfl,hp,rfl,p,d,y,rfl,TA,Y,λ l H1 s1 hln hl=>?_⟩;refine ⟨l,rfl,⟨_,.of hl⟩,de (xs:=(bK y).map ov) (λ i acc H'=>Same H1 H'/\acc=(be ((bK y).take i)).map V.int) ⟨Same.refl _,rfl⟩ ?_ ?_ ?_ ?_⟩
  ·rintro i acc H' hi ⟨s2,rfl⟩;refine ⟨.of (s2 _ _ hl),?_⟩;rw [aj];have h1:(be ((bK y).take i)).length<=((bK y).take i).length:=List.length_filterMap_le _ _;rw [bc] at h1;omega
  ·show 5<=sizeLine;decide
  ·rintro i x acc H' hx hlt ⟨s2,rfl⟩;have hlt':i < (bK y).length:=by rwa [aj] at hlt
   have ex:(bK y)[i]?=some (bK y)[i]:=by simp [hlt']
   rw [aH,ex] at hx;cases hx;have tk:(bK y).take (i+1)=(bK y).take i++[(bK y)[i]]:=by rw [List.take_add_one,ex];rfl
   refine ⟨Wk.set rfl,_,rfl,rfl,_,rfl,?_⟩;cases e:(bK y)[i] with
   | none=>
    refine ay (cw hlt ⟨s2,?_⟩);rw [tk,e,qX]
   | some z=>
    refine aE ⟨_,rfl,cw hlt ⟨s2,?_⟩⟩;rw [tk,e,qY,aJ];rfl
  ·rintro acc H' ⟨s2,rfl⟩ q hq;refine ⟨q,be (bK y),M,rfl,.of ?_,js hM,iS hM,k _ (aM (s1.trans s2) hq)⟩;rw [ah,aj,bd]
noncomputable def rN(K:W.Frag)(C:Addr):Sp:=λ vs H Q _=>∃ (p:Addr) (xs:List OI),vs=[.ref p]/\SqL K H p (xs.map ov)/\xs.length<=1000/\∀ (q d:Addr) (H':Hp),Same H H'->eR C H' q d (av xs)->Q (.ref q) H'
theorem sc_tally_of:aB ["values", "tally", "value"] ["values"] (ax qK):=by walk_at "sc"
theorem zgU(T:Txt K mg t)(CI:fM P w K mg base CX0 1 t.aw ["self"] (rA t.aw))(CA:bn P w K mg base CX0 4 t.aw "add" ["self", "value"] (re t.aw))(F:Fun K "tally_of" "tally_of" qK f fd):
  FnOk P w K mg base CX0 5 f fd ["values"] (rN K t.aw):=by
 obtain ⟨fI,fdI,GI,mI,bI⟩:=CI;obtain ⟨fA,fdA,GA,mA,bA⟩:=CA;refine F.ok sc_tally_of (λ vs H Q E h=>?_) (λ cdv A outer s H vs Q E hr h=>?_)
 ·obtain ⟨p,xs,rfl,_⟩:=h;rfl
 ·obtain ⟨p,xs,rfl,hS,hl,k⟩:=h;refine ⟨_,ao (aI (i:=1) sc_tally_of.nd rfl (Or.inl rfl) (oF mI GI (hr.mono (by decide)) rfl T.uX bI .nil az))
   (ao (wK PassesOwn.never rfl (cH (pv 0)) (aU (i:=2) sc_tally_of.nd rfl (Or.inl rfl)) (am (bP (bJ (pv 1) T.aT mA GA hr bA .nil az (aa (pv 2) ae)))))
   (am (aC (pv 1)))),?_⟩
  intro x dx nx ndx nex;refine ⟨x,dx,rfl,ah,λ d H1 fd0 D1 kp=>⟨rfl,?_⟩⟩;have s0:Same H (upd (upd H dx (.own x)) x (.ins t.aw dx [])):=λ b o e=>by
   rw [ag (aF e nx),ag (aF e ndx)];exact e
  have nd0:H d=none:=s0.free fd0;have s1:Same H H1:=λ b o e=>by
   rw [kp b (aF e nx) (aF e nd0)];exact s0 b o e
  refine ⟨_,rfl,p,rfl,⟨_,s1.seq hS⟩,iM (K:=K) (a:=p) (xs:=xs.map ov) (λ i σ H2=>∃ v:Option V,σ=[some (.ref p),some (.ref x),v]/\Same H H2/\eR t.aw H2 x d (av (xs.take i)))
   ⟨none,rfl,s1,D1⟩ (λ i σ H2 _ ⟨_,_,s2,_⟩=>s2.seq hS) ?_ ?_⟩
  ·rintro i y σ H2 hi ⟨v,rfl,s2,D⟩;have hil:i < xs.length:=by
    have:=(al_gs.mp hi).1
    rwa [aj] at this
   have ex:xs[i]?=some xs[i]:=by simp [hil]
   rw [aH,ex] at hi;cases hi;obtain ⟨⟨dy,h1⟩,hd⟩:=id D;refine ⟨_,rfl,x,dy,_,rfl,h1,rfl,_,rfl,x,d,xs.take i,xs[i],rfl,D,?_,λ H3 D3 kp3=>?_⟩
   ·rw [bc];omega
   ·refine ⟨_,rfl,λ b o e=>?_,?_⟩
    ·rw [kp3 b (aF e nx) (aF e nd0)];exact s2 b o e
    ·rw [List.take_add_one,ex];exact D3
  ·rintro σ H2 ⟨v,rfl,s2,D⟩;rw [aj,bd] at D;exact ⟨_,rfl,k x d H2 s2 D⟩
theorem hU:kindsS.Nodup:=by decide +kernel
theorem vm{x:Str}(h:kindsS[j]?=some x):(∃ z,kindsV[j]?=some z/\eqV z (.str x)=true)/\∀ m z,m < j->kindsV[m]?=some z->eqV z (.str x)=false:=by
 constructor
 ·refine ⟨.str x,?_,by simp [eqV]⟩;unfold kindsV;rw [aH,h];rfl
 ·intro m z hm hz;unfold kindsV at hz;rw [aH] at hz;cases e:kindsS[m]? with
  | none=>rw [e] at hz;cases hz
  | some y=>
   rw [e] at hz;cases hz;have:y≠x:=λ q=>by
    subst q;exact absurd (eZ hU e h) (Nat.ne_of_lt hm)
   simpa [eqV] using this
theorem gd(h:okB xs=true):0 < xs.length:=by
 simp only [okB,Bool.and_eq_true,decide_eq_true_eq] at h;omega
noncomputable def xY(K:W.Frag)(t:Ad):Sp:=λ vs H Q E=>∃ (p:Addr) (xs:List OI) (x:Str),vs=[.str x,.ref p]/\SqL K H p (xs.map ov)/\xs.length<=1000/\
 (okB xs=false->∀ H',Same H H'->E (.ref t.cQ) none H')/\(okB xs=true->x∉kindsS->∀ H',Same H H'->E (.ref t.dX) none H')/\
 (okB xs=true->∀ j,kindsS[j]?=some x->∀ H',Same H H'->Q (ov ((bK (av xs)).getD j .none)) H')
theorem ziX:aB ["kind", "values"] ["kind", "values"] (ax qD):=by walk_at "sc"
theorem zgI(T:Txt K mg t)(C1:Cal P w K mg base (CXr P w) 5 "check_block" ["values"] (rj K t))(C2:Cal P w K mg base (CXr P w) 1 "check_kind" ["kind"] (xC t))(C3:Cal P w K mg base CX0 5 "tally_of" ["values"] (rN K t.aw))(C4:bn P w K mg base CX0 4 t.aw "rooms" ["self"] (lx t.aw))(F:Fun K "room" "room" qD f fd):FnOk P w K mg base (CXr P w) 6 f fd ["kind", "values"] (xY K t):=by
 obtain ⟨f4,fd4,G4,m4,b4⟩:=C4;refine F.okX ziX (λ vs H Q E h=>?_) (λ cdv A outer s H vs Q E hr h=>?_)
 ·obtain ⟨p,xs,x,rfl,_⟩:=h;rfl
 ·obtain ⟨p,xs,x,rfl,hS,hl,k1,k2,k3⟩:=h;refine ⟨_,ao (bP (C1.pe hr dj (aa (pv 1) ae))) (ao (bP (C2.pe hr dj (aa (pv 0) ae)))
   (am (aC (bj vg (c8 (C3.pe hr az (aa (pv 1) ae)) T.aT m4 G4 (hr.mono (by decide)) b4 .nil az)
    (oC PySem.F.plainAttrs_tuple PySem.F.slot_tuple_index PySem.F.type_tuple_index vN (dN T.iN) (aa (pv 0) ae)) (λ _ _=>rfl))))),?_⟩
  refine ⟨_,rfl,p,xs,rfl,hS,hl,λ okb H1 s1=>?_,k1⟩;refine ⟨_,rfl,x,rfl,λ hx=>?_,λ hx=>k2 okb hx H1 s1⟩;obtain ⟨j,hj⟩:=List.getElem?_of_mem hx;obtain ⟨q1,q2⟩:=vm hj;refine ⟨_,rfl,p,xs,rfl,s1.seq hS,hl,λ q d H2 s2 D2=>?_⟩;obtain ⟨⟨dx,h2⟩,hd2⟩:=id D2;refine ⟨q,dx,_,rfl,h2,rfl,q,d,av xs,rfl,D2,rW (gd okb) hl,λ l H3 s3 hln h3=>?_⟩;refine ⟨.inr (.inl ⟨rfl,T.vk⟩),_,rfl,t.eS,kindsV,.str x,j,rfl,rfl,T.iR _,rfl,rfl,q1,q2,?_⟩;refine ⟨l,_,(j:Int),ov ((bK (av xs)).getD j .none),rfl,rfl,.of h3,dU ?_,k3 okb j hj H3 ((s1.trans s2).trans s3)⟩;have hj5:j < 5:=by
   have:=(al_gs.mp hj).1;exact this
  have hj':j < (bK (av xs)).length:=hj5;rw [aH];simp [List.getD,hj']
noncomputable def cD(xs:List OI):Nat:=fix (bK (av xs)) (cz (be (bK (av xs))))
noncomputable def xx(K:W.Frag)(t:Ad):Sp:=λ vs H Q E=>∃ (p:Addr) (xs:List OI),vs=[.ref p]/\SqL K H p (xs.map ov)/\xs.length<=1000/\
 (okB xs=false->∀ H',Same H H'->E (.ref t.cQ) none H')/\(okB xs=true->∀ H',Same H H'->Q (.str (kindsS.getD (cD xs) "")) H')
theorem sc_best:aB ["values", "tally"] ["values"] (ax pM):=by walk_at "sc"
theorem tw(xs:List OI):∃ M,cz (be (bK (av xs)))=some M/\(bK (av xs))[cD xs]?=some (some M)/\∀ m z,m < cD xs->(bK (av xs))[m]?=some z->z≠some M:=by
 obtain ⟨M,h1,h2⟩:=xn (y:=av xs);refine ⟨M,h1,?_,λ m z hm hz=>?_⟩
 ·unfold cD;rw [h1];exact uK h2
 ·unfold cD at hm;rw [h1] at hm;exact uL hm hz
theorem zfS(T:Txt K mg t)(C1:Cal P w K mg base (CXr P w) 5 "check_block" ["values"] (rj K t))(C3:Cal P w K mg base CX0 5 "tally_of" ["values"] (rN K t.aw))(C4:bn P w K mg base CX0 4 t.aw "rooms" ["self"] (lx t.aw))(C5:bn P w K mg base CX0 5 t.aw "least_room" ["self"] (rE t.aw))(F:Fun K "best_kind" "best_kind" pM f fd):
  FnOk P w K mg base (CXr P w) 6 f fd ["values"] (xx K t):=by
 obtain ⟨f4,fd4,G4,m4,b4⟩:=C4;obtain ⟨f5,fd5,G5,m5,b5⟩:=C5;refine F.okX sc_best (λ vs H Q E h=>?_) (λ cdv A outer s H vs Q E hr h=>?_)
 ·obtain ⟨p,xs,rfl,_⟩:=h;rfl
 ·obtain ⟨p,xs,rfl,hS,hl,k1,k2⟩:=h;refine ⟨_,ao (bP (C1.pe hr dj (aa (pv 0) ae))) (ao (aI (i:=1) sc_best.nd rfl (Or.inl rfl) (C3.pe hr az (aa (pv 0) ae)))
   (am (aC (bj vi (dN T.iN) (oC PySem.F.plainAttrs_list PySem.F.slot_list_index PySem.F.type_list_index kI (c8 (pv 1) T.aT m4 G4 (hr.mono (by decide)) b4 .nil az)
    (aa (c8 (pv 1) T.aT m5 G5 hr b5 .nil az) ae)) (λ _ _=>rfl))))),?_⟩
  refine ⟨_,rfl,p,xs,rfl,hS,hl,λ okb H1 s1=>?_,k1⟩;refine ⟨_,rfl,p,xs,rfl,s1.seq hS,hl,λ q d H2 s2 D2=>?_⟩;obtain ⟨⟨dx,h2⟩,hd2⟩:=id D2;have Y:=rW (gd okb) hl;obtain ⟨M,hM,hj,hno⟩:=tw xs;refine ⟨_,rfl,q,dx,_,rfl,h2,rfl,q,d,av xs,rfl,D2,Y,λ l H3 s3 hln h3=>?_⟩;have D3:=qR s3 D2;obtain ⟨⟨dx3,h33⟩,hd3⟩:=id D3;refine ⟨.inl ⟨rfl,_,.of h3⟩,_,rfl,q,dx3,_,rfl,h33,rfl,q,d,av xs,M,rfl,D3,Y,hM,λ H4 s4=>?_⟩;have hj5:cD xs < 5:=(al_gs.mp hj).1;refine ⟨l,_,.int M,cD xs,rfl,rfl,s4 _ _ h3,zhe _,rfl,⟨ov (some M),by rw [aH,hj];rfl,by show eqV (.int M) (.int M)=true;simp [eqV]⟩,λ m z hm hz=>?_,?_⟩
  ·rw [aH] at hz;cases e:(bK (av xs))[m]? with
   | none=>rw [e] at hz;cases hz
   | some z'=>
    rw [e] at hz;cases hz;show eqV (ov z') (ov (some M))=false;rw [zha];exact aK (hno m z' hm e)
  ·refine ⟨t.eS,kindsV,(cD xs:Int),.str (kindsS.getD (cD xs) ""),rfl,rfl,T.iR _,dU ?_,k2 okb H4 (((s1.trans s2).trans s3).trans s4)⟩;have hj':cD xs < kindsS.length:=hj5;unfold kindsV;rw [aH];simp [List.getD,hj']
theorem sc_packed:aB ["kind", "values", "head"] ["kind", "values"] (ax qu):=by walk_at "sc"
noncomputable def cell(ns:List Int)(k:Int):Int:=if ns=[] then 0 else ns.getD (k % (ns.length:Int)).toNat 0
noncomputable def vI(ns:List Int)(k:Int):Int:=(cell ns k+104729 * (k+1)) % 4294967291 * 48271 % 4294967279
noncomputable def mix(ns:List Int)(k:Int):Int:=(vI ns k / 64 * 69621+vI ns k) % 4294967231
local macro_rules | `(tactic| walk_at "rd")=>`(tactic| (repeat (first | (apply Exists.intro) | (apply And.intro;(first | exact rfl | assumption | exact Or.inl (by assumption) | exact SqL.of (by assumption) | exact Or.inl (SqL.of (by assumption)) | exact ⟨_,by assumption⟩ | exact ⟨_,SqL.of (by assumption)⟩ | exact ⟨_,SqT.of (by assumption)⟩ | exact Or.inl ⟨rfl,_,SqL.of (by assumption)⟩ | omega | exact ⟨by decide,by decide⟩ | exact Or.inl ⟨by decide,by decide⟩ | exact Or.inr ⟨by decide,by decide⟩ | (show (0:Int) < _;omega) | exact bf rfl | exact gC _ _)))))
noncomputable def xJ(K:W.Frag):Sp:=λ vs H Q _=>∃ (p:Addr) (ns:List Int) (k:Int),vs=[.ref p,.int k]/\SqL K H p (ns.map V.int)/\Q (.int (cell ns k)) H
theorem ziQ:aB ["_law_script", "_law_k"] ["_law_script", "_law_k"] (ax qf):=by walk_at "sc"
theorem zge(T:Txt K mg t)(F:Fun K "_law_cell" "_law_cell" qf f fd):FnOk P w K mg base CX0 1 f fd ["_law_script", "_law_k"] (xJ K):=by
 refine F.ok ziQ (λ vs H Q E h=>?_) (λ cdv A outer s H vs Q E hr h=>?_)
 ·obtain ⟨p,ns,k,rfl,_⟩:=h;rfl
 ·obtain ⟨p,ns,k,rfl,hS,q⟩:=h;refine ⟨_,(ao (a8 (wO K (pv 0)) (am (aC (bj (bG K) (pv 0) (au cE (pv 1) (aR (cJ K) (by rfl) T.bH PyProof.Rows.Boot.«len» (aa (pv 0) ae))) (λ _ _=>rfl))))
   bq)
  (am (aC aq))),?_⟩
  refine ⟨_,rfl,p,_,rfl,hS,?_⟩;cases ns with
  | nil=>exact ay q
  | cons n r=>
   refine aE ?_;have hl:0 < ((n::r).length:Int):=by rw [List.length_cons];omega
   have hat:atI ((n::r).map V.int) (k % ((n::r).length:Int))=some (.int (cell (n::r) k)):=by
    refine fm (Int.emod_nonneg _ (by omega)) ?_;have h1:=Int.emod_lt_of_pos k hl;have h0:=Int.emod_nonneg k (b:=((n::r).length:Int)) (by omega);have h2:(k % ((n::r).length:Int)).toNat < (n::r).length:=by omega
    rw [aH,cell,if_neg (by simp),aA h2];simp only [List.getD,aA h2,Option.getD_some,Option.map_some]
   refine ⟨_,rfl,_,rfl,_,rfl,p,_,rfl,.inl hS,_,_,rfl,rfl,by rw [aj];exact hl,?_⟩;rw [aj];exact ⟨p,_,_,_,rfl,rfl,hS,hat,q⟩
noncomputable def lp(K:W.Frag):Sp:=λ vs H Q _=>∃ (p:Addr) (ns:List Int) (k:Int),vs=[.ref p,.int k]/\SqL K H p (ns.map V.int)/\Q (.int (mix ns k)) H
theorem sc_l_mix:aB ["_law_script", "_law_k", "_law_number"] ["_law_script", "_law_k"] (ax qj):=by walk_at "sc"
theorem zgf(T:Txt K mg t)(C__law_cell:Cal P w K mg base CX0 1 "_law_cell" ["_law_script", "_law_k"] (xJ K))(F:Fun K "_law_mix" "_law_mix" qj f fd):FnOk P w K mg base CX0 3 f fd ["_law_script", "_law_k"] (lp K):=by
 refine F.ok sc_l_mix (λ vs H Q E h=>?_) (λ cdv A outer s H vs Q E hr h=>?_)
 ·obtain ⟨p,ns,k,rfl,_⟩:=h;rfl
 ·obtain ⟨p,ns,k,rfl,hS,q⟩:=h;refine ⟨_,(ao (aI (i:=2) sc_l_mix.nd rfl (Or.inl rfl) (au cE (au bv (C__law_cell.pe hr az (aa (pv 0) (aa (pv 1) ae))) (au e7 aq (au bv (pv 1) aq))) aq))
  (ao (aI (i:=2) sc_l_mix.nd rfl (Or.inl rfl) (au cE (au e7 (pv 2) aq) aq))
  (am (aC (au cE (au bv (au e7 (au fE (pv 2) aq) aq) (pv 2)) aq))))),?_⟩
  walk_at "rd"
  exact q
theorem small1000'(h:n<=10000):n < sizeLine:=Nat.lt_of_le_of_lt h (by decide)
theorem zbv(xs:List OI):∀ n,dif xs (n+1)<=n
 | 0=>by simp [dif]
 | n+1=>by
  have:=zbv xs n;rw [dif]
  split <;> omega
theorem gI(xs:List OI):∀ n,(stp xs (n+1)).length=n
 | 0=>by simp [stp]
 | n+1=>by
  have:=gI xs n;rw [stp,if_pos (by omega),aO,this];rfl
theorem getD_at'(h:i < xs.length):xs[i]?=some (at' xs i):=by
 rw [aA h,at'_of (aA h)]
theorem zab(hv:v∈xs):0<=above ((cz (be xs)).getD 0) v:=by
 cases v with
 | none=>simp [above]
 | some i=>
  obtain ⟨m,hm⟩:∃ m,cz (be xs)=some m:=by
   cases e:be xs with
   | nil=>have:=mem_somes.mpr hv;rw [e] at this;cases this
   | cons x r=>exact ⟨_,rfl⟩
  have:=iS hm i (mem_somes.mpr hv);simp [above,hm];omega
theorem zjd(hn : .none∉xs)(h:i < xs.length):∃ a,at' xs i=some a:=by
 cases e:at' xs i with
 | none=>
  have:xs[i]?=some .none:=by rw [getD_at' h,e]
  exact absurd (aS this) hn
 | some a=>exact ⟨a,rfl⟩
theorem zh5(xs:List OI):(av xs).none=true↔.none∈xs:=by
 have:=yB (xs:=xs) xs.length (Nat.le_refl _)
 rwa [bd] at this
theorem dE(a:Str):decide (V.str a=V.str a)=true:=aN rfl
theorem d0{a b:Str}(h:a≠b):decide (V.str a=V.str b)=false:=aK λ z=>h (V.str.inj z)
theorem uJ{x:Str}(h:kindsS[j]?=some x):(j=0/\x = "plain")\/(j=1/\x = "runs")\/(j=2/\x = "book")\/(j=3/\x = "base")\/(j=4/\x = "steps"):=by
 match j,h with
 | 0,h=>exact .inl ⟨rfl,(Option.some.inj h).symm⟩
 | 1,h=>exact .inr (.inl ⟨rfl,(Option.some.inj h).symm⟩)
 | 2,h=>exact .inr (.inr (.inl ⟨rfl,(Option.some.inj h).symm⟩))
 | 3,h=>exact .inr (.inr (.inr (.inl ⟨rfl,(Option.some.inj h).symm⟩)))
 | 4,h=>exact .inr (.inr (.inr (.inr ⟨rfl,(Option.some.inj h).symm⟩)))
 | (j+5),h=>cases h
noncomputable def rm(xs:List OI)(j:Nat):OI:=(bK (av xs)).getD j .none
noncomputable def fQ(ys:List OI):Int:=(cz (be (bK (av ys)))).getD 0
theorem tt(h:cz (be (bK (av ys)))=some M):M=fQ ys:=by unfold fQ;rw [h];rfl
theorem zaI(ys:List OI):cz (be (bK (av ys)))=some (fQ ys):=by
 obtain ⟨M,h,_⟩:=xn (y:=av ys);rw [h,tt h]
noncomputable def lr(xs:List OI)(b e:Nat):Int:=fQ ((xs.drop b).take (e - b))
noncomputable def i0(xs:List OI)(b:Nat):List Int:=(List.range (xs.length - b)).map λ k=>fQ ((xs.drop b).take (k+1))
theorem zh8(hb:b < e)(he:e<=xs.length):(i0 xs b)[e - b - 1]?=some (lr xs b e):=by
 unfold i0 lr;rw [aH,List.getElem?_range (by omega)];simp only [Option.map_some];rw [show e - b - 1+1=e - b by omega]
noncomputable def g7(l:List Int):Int:=(cz l).getD 0
theorem vH(h:l≠[]):g7 l∈l:=by
 obtain ⟨m,hm⟩:=jt h;unfold g7;rw [hm];exact js hm
theorem zex  : ∀ i∈l,g7 l<=i:=λ i hi=>by
 obtain ⟨m,hm⟩:=jt (List.ne_nil_of_mem hi);unfold g7;rw [hm];exact iS hm i hi
noncomputable def prL(xs:List OI):Nat->List Int
 | 0=>[0]
 | k+1=>prL xs k++[g7 ((List.range (k+1)).map λ b=>(prL xs k).getD b 0+lr xs b (k+1))]
theorem jA(xs:List OI):∀ k,(prL xs k).length=k+1
 | 0=>rfl
 | k+1=>by rw [prL,aO,jA xs k];rfl
noncomputable def pr(xs:List OI)(j:Nat):Int:=(prL xs j).getD j 0
theorem oI(xs:List OI):∀ k j,j<=k->(prL xs k)[j]?=some (pr xs j)
 | 0,j,h=>by
  have:j=0:=by omega
  subst this;rfl
 | k+1,j,h=>by
  by_cases hj:j=k+1
  ·subst hj;unfold pr;have hl:k+1 < (prL xs (k+1)).length:=by rw [jA];omega
   rw [aA hl];simp [List.getD,hl]
  ·have hl:j < (prL xs k).length:=by rw [jA];omega
   rw [prL,List.getElem?_append_left hl];exact oI xs k j (by omega)
theorem wI(h:j<=k):(prL xs k).getD j 0=pr xs j:=by
 simp [List.getD,oI xs k j h]
theorem kZ(xs:List OI)(k:Nat):pr xs (k+1)=g7 ((List.range (k+1)).map λ b=>pr xs b+lr xs b (k+1)):=by
 have hl:(prL xs k).length=k+1:=jA xs k;have e:pr xs (k+1)=g7 ((List.range (k+1)).map λ b=>(prL xs k).getD b 0+lr xs b (k+1)):=by
  show (prL xs k++[_]).getD (k+1) 0=_;simp [List.getD,hl]
 rw [e]
 congr 1
 apply List.map_congr_left;intro b hb;rw [wI (by have:=List.mem_range.mp hb;omega)]
theorem wJ(xs:List OI)(h:0 < e):∃ b,b < e/\pr xs b+lr xs b e=pr xs e:=by
 obtain ⟨k,rfl⟩:∃ k,e=k+1:=⟨e - 1,by omega⟩
 have hm:pr xs (k+1)∈(List.range (k+1)).map λ b=>pr xs b+lr xs b (k+1):=by
  rw [kZ];exact vH (by simp)
 obtain ⟨b,hb,e⟩:=List.mem_map.mp hm;exact ⟨b,List.mem_range.mp hb,e⟩
noncomputable def okC(xs:List OI):Bool:=decide (xs.length<=64) && xs.all okV
theorem ge(h:okC xs=true):xs.length<=64:=by
 simp only [okC,Bool.and_eq_true,decide_eq_true_eq] at h;exact h.1
noncomputable def xB(K:W.Frag)(t:Ad):Sp:=λ vs H Q E=>∃ (p:Addr) (xs:List OI),vs=[.ref p]/\SqL K H p (xs.map ov)/\xs.length<=1000/\
 (okC xs=true->∀ H',Same H H'->Q .non H')/\(okC xs=false->∀ H',Same H H'->E (.ref t.cQ) none H')
theorem ziE:aB ["values"] ["values"] (ax pR):=by walk_at "sc"
theorem zfZ(T:Txt K mg t)(jT:Cal P w K mg base CX0 3 "are_values" ["values"] (rg K))(F:Fun K "check_column" "check_column" pR f fd):FnOk P w K mg base (CXr P w) 4 f fd ["values"] (xB K t):=by
 refine F.okX ziE (λ vs H Q E h=>?_) (λ cdv A outer s H vs Q E hr h=>?_)
 ·obtain ⟨p,xs,rfl,_⟩:=h;rfl
 ·obtain ⟨p,xs,rfl,hS,hl,k1,k2⟩:=h;have el:(xs.map ov).length=xs.length:=aj _;refine ⟨_,(am (a8 (PW.pt (hZ (aQ gB (aR (cJ K) (by rfl) T.bH PyProof.Rows.Boot.«len» (aa (pv 0) ae)) (bo T.u6) (aP _)) (ie (fG (fg (jT.pe hr az (aa (pv 0) ae))))))) (am (dP dR T.yK rfl (by rfl) T.nk (aa aD ae)))
   bq)),?_⟩
  walk_at "rd"
  rw [el];by_cases c:64 < xs.length
  ·rw [aN (show (64:Int) < (xs.length:Int) by omega)];have e:okC xs=false:=by unfold okC;rw [aK (by omega),Bool.false_and]
   exact aE (aE ⟨by show 1<=sizeLine;decide,k2 e H (Same.refl H)⟩)
  ·rw [aK (show ¬ (64:Int) < (xs.length:Int) by omega)];refine ay ⟨_,rfl,p,xs,rfl,hS,hl,λ H' s1=>⟨_,rfl,?_⟩⟩;have e:okC xs=xs.all okV:=by unfold okC;rw [aN (by omega),Bool.true_and]
   cases e2:xs.all okV with
   | true=>exact ay (k1 (e.trans e2) H' s1)
   | false=>exact aE ⟨by show 1<=sizeLine;decide,k2 (e.trans e2) H' s1⟩
theorem zbj(xs:List OI)(h:b<=xs.length):cK (xs.map ov) (some (b:Int)) none=(xs.drop b).map ov:=by
 unfold cK;rw [HT.sIx_none,HT.sIx_nat,aj,Nat.min_eq_left h,← List.map_drop,List.take_of_length_le (by simp)]
noncomputable def xZ(K:W.Frag):Sp:=λ vs H Q _=>∃ (p:Addr) (xs:List OI) (b:Nat),vs=[.ref p,.int b]/\SqL K H p (xs.map ov)/\xs.length<=1000/\b < xs.length/\
 ∀ (l:Addr) (H':Hp),Same H H'->H l=none->H' l=some (.lst ((i0 xs b).map V.int))->Q (.ref l) H'
theorem sc_rooms_from:aB ["values", "begin", "tally", "rooms", "value"] ["values", "begin"] (ax qF):=by walk_at "sc"
theorem zgL(T:Txt K mg t)(CI:fM P w K mg base CX0 1 t.aw ["self"] (rA t.aw))(CA:bn P w K mg base CX0 4 t.aw "add" ["self", "value"] (re t.aw))(CL:bn P w K mg base CX0 5 t.aw "least_room" ["self"] (rE t.aw))(F:Fun K "rooms_from" "rooms_from" qF f fd):FnOk P w K mg base CX0 6 f fd ["values", "begin"] (xZ K):=by
 obtain ⟨zbJ,zbR,mq,nP,mO⟩:=CI;obtain ⟨zkJ,zk1,zR,zed,zaw⟩:=CA;obtain ⟨zkM,zk4,zU,zeg,zaz⟩:=CL;refine F.ok sc_rooms_from (λ vs H Q E h=>?_) (λ cdv A outer s H vs Q E hr h=>?_)
 ·obtain ⟨p,xs,b,rfl,_⟩:=h;rfl
 ·obtain ⟨p,xs,b,rfl,hS,hl,hb,q⟩:=h;refine ⟨_,(ao (aI (i:=2) sc_rooms_from.nd rfl (Or.inl rfl) (oF nP mq (hr.mono (by decide)) rfl T.uX mO .nil az))
  (ao (aI (i:=3) sc_rooms_from.nd rfl (Or.inl rfl) (bD ae))
  (ao (dO PassesOwn.never rfl (cH (gg (im K) (pv 0) (eI (pv 1)) iY)) (aU (i:=4) sc_rooms_from.nd rfl (Or.inl rfl))
   (ao (bP (bJ (pv 2) T.aT zed zR (hr.mono (by decide)) zaw .nil az (aa (pv 4) ae)))
  (am (bP (bW K PySem.F.plainAttrs_list PySem.F.slot_list_append PySem.F.type_list_append f9 (pv 3) (aa (c8 (pv 2) T.aT zeg zU (hr.mono (by decide)) zaz .nil az) ae))))))
  (am (aC (pv 3)))))),?_⟩
  intro x dx nx ndx nex;refine ⟨x,dx,rfl,ah,λ d H1 fd0 D1 kp=>?_⟩;have s0:Same H (upd (upd H dx (.own x)) x (.ins t.aw dx [])):=λ b o e=>by
   rw [ag (aF e nx),ag (aF e ndx)];exact e
  have nd0:H d=none:=s0.free fd0;have s1:Same H H1:=λ b o e=>by
   rw [kp b (aF e nx) (aF e nd0)];exact s0 b o e
  walk_at "rd"
  intro l hln;have hH1l:=s1.free hln;obtain ⟨⟨dy,hx1⟩,hd1⟩:=id D1;have nxl:x≠l:=aF hx1 hln;have ndl:d≠l:=aF hd1 hln;have s2:Same H (upd H1 l (.lst [])):=aM s1 hln;have hS2:=s2.seq hS;have D2:eR t.aw (upd H1 l (.lst [])) x d Ty.zero:=⟨⟨dy,by rw [ag nxl];exact hx1⟩,by rw [ag ndl];exact hd1⟩
  have h2:(upd H1 l (.lst [])) l=some (.lst []):=ah;generalize upd H1 l (.lst [])=H2 at s2 hS2 D2 h2
  walk_at "rd"
  intro l3 hl3;rw [zbj xs (by omega)];have s3:Same H2 (upd H2 l3 (.lst ((xs.drop b).map ov))):=Same.new hl3;have h3:(upd H2 l3 (.lst ((xs.drop b).map ov))) l3=some (.lst ((xs.drop b).map ov)):=ah;have n3x:l3≠x:=λ z=>by obtain ⟨⟨_,e⟩,_⟩:=D2;rw [z,e] at hl3;cases hl3
  have n3d:l3≠d:=λ z=>by obtain ⟨_,e⟩:=D2;rw [z,e] at hl3;cases hl3
  have n3l:l3≠l:=λ z=>by rw [z,h2] at hl3;cases hl3
  have hH3:=s2.free hl3;have ld:(xs.drop b).length=xs.length - b:=List.length_drop;refine ⟨l3,rfl,⟨_,SqL.of h3⟩,⟨iM (K:=K) (a:=l3) (xs:=(xs.drop b).map ov) (λ i σ H'=>∃ v:Option V,σ=[some (.ref p),some (.int b),some (.ref x),some (.ref l),v]/\Same H H'/\H' l3=some (.lst ((xs.drop b).map ov))/\
    eR t.aw H' x d (av ((xs.drop b).take i))/\H' l=some (.lst (((List.range i).map λ k=>fQ ((xs.drop b).take (k+1))).map V.int)))
   ⟨none,rfl,s2.trans s3,h3,qR s3 D2,s3 _ _ h2⟩ (λ i σ H' hi hp=>by obtain ⟨_,_,_,h,_⟩:=hp;exact SqL.of h) ?_ ?_⟩⟩
  ·rintro i y σ H4 hi ⟨v,rfl,s4,h4,D4,g4⟩;have hil:i < (xs.drop b).length:=by
    have:=(al_gs.mp hi).1
    rwa [aj] at this
   rw [aH,getD_at' hil] at hi;cases hi;obtain ⟨⟨dz,e4⟩,ed4⟩:=id D4;have nlx:l≠x:=cZ g4 e4 (by intro z;cases z);have nld:l≠d:=cZ g4 ed4 (by intro z;cases z);refine ⟨_,rfl,x,dz,_,rfl,e4,rfl,_,rfl,x,d,(xs.drop b).take i,at' (xs.drop b) i,rfl,D4,by rw [bc];omega,λ H5 D5 kp5=>?_⟩;rw [← cN hil] at D5;have g5:H5 l=some (.lst (((List.range i).map λ k=>fQ ((xs.drop b).take (k+1))).map V.int)):=by rw [kp5 l nlx nld];exact g4
   have h5:H5 l3=some (.lst ((xs.drop b).map ov)):=by rw [kp5 l3 n3x n3d];exact h4
   have s5:Same H H5:=λ c o e=>by rw [kp5 c (aF e nx) (aF e nd0)];exact s4 c o e
   obtain ⟨⟨dw,e5⟩,ed5⟩:=id D5;have pos:0 < ((xs.drop b).take (i+1)).length:=by rw [bc];omega
   have Y:=rW pos (by rw [bc];omega);refine ⟨_,rfl,.inl ⟨rfl,_,SqL.of g5⟩,_,rfl,x,dw,_,rfl,e5,rfl,x,d,_,fQ ((xs.drop b).take (i+1)),rfl,D5,Y,zaI _,λ H6 s6=>?_⟩;refine ⟨l,_,_,rfl,rfl,s6 _ _ g5,by rw [aj,aj,List.length_range];exact br (by omega),?_⟩;have g6:=s6 _ _ g5;have nl3':l3≠l:=n3l;refine ⟨_,rfl,λ c o e=>?_,?_,?_,?_⟩
   ·rw [ag (aF e hH1l)];exact s6 _ _ (s5 c o e)
   ·rw [ag nl3'];exact s6 _ _ h5
   ·obtain ⟨⟨du,e6⟩,ed6⟩:=qR s6 D5;exact ⟨⟨du,by rw [ag nlx.symm];exact e6⟩,by rw [ag nld.symm];exact ed6⟩
   ·rw [ah,List.range_succ,aJ,aJ];rfl
  ·rintro σ H4 ⟨v,rfl,s4,h4,D4,g4⟩;refine ⟨_,rfl,q l H4 s4 hH1l ?_⟩;rw [g4,aj,ld];rfl
noncomputable def iI(H:Hp)(l:Addr)(xs:List OI):Prop:=∃ as:List Addr,H l=some (.lst (as.map V.ref))/\as.length=xs.length/\∀ (b:Nat) (a:Addr),as[b]?=some a->H a=some (.lst ((i0 xs b).map V.int))
theorem qQ{l:Addr}(s:Same H H')(h:iI H l xs):iI H' l xs:=by
 obtain ⟨as,h1,h2,h3⟩:=h;exact ⟨as,s _ _ h1,h2,λ b a e=>s _ _ (h3 b a e)⟩
noncomputable def xy(K:W.Frag):Sp:=λ vs H Q _=>∃ (p:Addr) (xs:List OI),vs=[.ref p]/\SqL K H p (xs.map ov)/\xs.length<=1000/\∀ (l:Addr) (H':Hp),Same H H'->H l=none->iI H' l xs->Q (.ref l) H'
theorem ze0:(["begin", "values"]:List Str).Nodup:=by decide +kernel
theorem ziB:aB ["values"] ["values"] (ax pN):=by walk_at "sc"
theorem zfU(T:Txt K mg t)(ma:Cal P w K mg base CX0 6 "rooms_from" ["values", "begin"] (xZ K))(F:Fun K "block_rooms" "block_rooms" pN f fd):FnOk P w K mg base CX0 7 f fd ["values"] (xy K):=by
 refine F.ok ziB (λ vs H Q E h=>?_) (λ cdv A outer s H vs Q E hr h=>?_)
 ·obtain ⟨p,xs,rfl,_⟩:=h;rfl
 ·obtain ⟨p,xs,rfl,hS,hl,q⟩:=h;have el:(xs.map ov).length=xs.length:=aj _;refine ⟨_,(am (aC (cL (N:=["begin", "values"]) (fr:=[none,some 0]) ⟨rfl,rfl,rfl,rfl,rfl,rfl⟩ rfl (eG (by rfl) T.dA (aa (aR (cJ K) (by rfl) T.bH PyProof.Rows.Boot.«len» (aa (pv 0) ae)) ae))
    (λ C fp s H=>⟨aU (i:=0) ze0 rfl (Or.inl rfl),bZ,(ma.pe hr az (aa (pv 1) (aa (pv 0) ae)))⟩)))),?_⟩
  walk_at "rd"
  refine ⟨gQ (λ i acc H'=>Same H H'/\∃ as:List Addr,acc=as.map V.ref/\as.length=i/\∀ (b:Nat) (a:Addr),as[b]?=some a->H' a=some (.lst ((i0 xs b).map V.int))) ⟨Same.refl _,[],rfl,rfl,λ b a e=>by cases e⟩
   (λ i acc H' hi hp=>by obtain ⟨_,as,e,h,_⟩:=hp;rw [e,aj];omega) (Nat.le_of_lt (br (by omega))) ?_ ?_⟩
  ·rintro i acc H' hi ⟨s1,as,rfl,ha,hr'⟩;have e0:(0+(i:Int))=(i:Int):=Int.zero_add _;refine ⟨Wk.set rfl,tT ?_⟩;rw [e0];refine ⟨_,rfl,_,rfl,p,xs,i,rfl,s1.seq hS,hl,by omega,λ l H2 s2 hln h2=>cw hi ⟨s1.trans s2,as++[l],by rw [aJ];rfl,by simp [ha],λ b a e=>?_⟩⟩;by_cases hb:b < as.length
   ·rw [List.getElem?_append_left hb] at e;exact s2 _ _ (hr' b a e)
   ·rw [List.getElem?_append_right (by omega)] at e;have hbi:b - as.length=0:=by
     have:=(al_gs.mp e).1;simp at this;omega
    rw [hbi] at e;cases e;rw [show b=i by omega];exact h2
  ·rintro acc H' ⟨s1,as,rfl,ha,hr'⟩ l hl2;refine q l _ (aM s1 hl2) (s1.free hl2) ⟨as,ah,by omega,λ b a e=>?_⟩;have:=hr' b a e;rw [ag (aF this hl2)];exact this
noncomputable def rL(K:W.Frag):Sp:=λ vs H Q _=>∃ (l:Addr) (xs:List OI) (b e:Nat),vs=[.ref l,.int b,.int e]/\iI H l xs/\b < e/\e<=xs.length/\Q (.int (lr xs b e)) H
theorem ziY:aB ["rooms", "begin", "end"] ["rooms", "begin", "end"] (ax qE):=by walk_at "sc"
theorem zgJ(F:Fun K "room_between" "room_between" qE f fd):FnOk P w K mg base CX0 1 f fd ["rooms", "begin", "end"] (rL K):=by
 refine F.ok ziY (λ vs H Q E h=>?_) (λ cdv A outer s H vs Q E hr h=>?_)
 ·obtain ⟨l,xs,b,e,rfl,_⟩:=h;rfl
 ·obtain ⟨l,xs,b,e,rfl,⟨as,h1,h2,h3⟩,hb,he,q⟩:=h;refine ⟨_,(am (aC (bj (bG K) (bj (bG K) (pv 0) (pv 1) (λ _ _=>rfl)) (au cF (au cF (pv 2) (pv 1)) aq) (λ _ _=>rfl)))),?_⟩;have hb':b < as.length:=by omega
  have ea:as[b]?=some as[b]:=aA hb';have a1:atI (as.map V.ref) (b:Int)=some (.ref as[b]):=dU (by rw [aH,ea];rfl);have a2:atI ((i0 xs b).map V.int) ((e:Int) - b - 1)=some (.int (lr xs b e)):=by
   refine fm (by omega) ?_;rw [show ((e:Int) - b - 1).toNat=e - b - 1 by omega,aH,zh8 hb he];rfl
  have h4:=h3 b _ ea;exact ⟨_,rfl,_,rfl,l,_,_,_,rfl,rfl,SqL.of h1,a1,_,rfl,_,rfl,_,_,rfl,rfl,_,_,rfl,rfl,_,_,_,_,rfl,rfl,SqL.of h4,a2,q⟩
noncomputable def lb(xs:List OI)(e:Nat):Nat:=((List.range e).find? λ b=>decide (pr xs b+lr xs b e=pr xs e)).getD 0
theorem zbU{p:Nat->Bool}:∀ (n b:Nat),b < n->p b=true->(∀ c,c < b->p c=false)->(List.range n).find? p=some b:=by
 intro n;induction n with
 | zero=>intro b h;omega
 | succ n ih=>
  intro b h hp hn;rw [List.range_succ,List.find?_append];by_cases hb:b < n
  ·rw [ih b hb hp hn];rfl
  ·have e:b=n:=by omega
   subst e;have:(List.range b).find? p=none:=by
    rw [List.find?_eq_none];intro c hc;rw [hn c (List.mem_range.mp hc)];exact bz
   rw [this];simp [hp]
theorem zdI(h:b < e)(hh:pr xs b+lr xs b e=pr xs e)(hn:∀ c,c < b->pr xs c+lr xs c e≠pr xs e):lb xs e=b:=by
 unfold lb;rw [zbU e b h (aN hh) λ c hc=>aK (hn c hc)];rfl
theorem jq(xs:List OI)(h:0 < e):lb xs e < e:=by
 obtain ⟨b,hb,hh⟩:=wJ xs h;unfold lb;cases q:(List.range e).find? λ b=>decide (pr xs b+lr xs b e=pr xs e) with
 | none=>exact h
 | some c=>exact List.mem_range.mp (List.mem_of_find?_eq_some q)
noncomputable def fu(xs:List OI):Nat->Nat->List Nat
 | 0,_=>[]
 | f+1,e=>if e=0 then [] else fu xs f (lb xs e)++[e]
theorem uk(xs:List OI):∀ f e,e<=f->fu xs (f+1) e=fu xs f e
 | 0,e,h=>by
  have:e=0:=by omega
  subst this;rfl
 | f+1,e,h=>by
  rw [fu];by_cases h0:e=0
  ·subst h0;simp [fu]
  ·have:=jq xs (e:=e) (by omega);rw [if_neg h0,uk xs f _ (by omega)]
   conv=>rhs;rw [fu]
   rw [if_neg h0]
theorem zbm(xs:List OI){f:Nat}(h:e<=f):fu xs f e=fu xs e e:=by
 obtain ⟨k,rfl⟩:=Nat.le.dest h;induction k with
 | zero=>rfl
 | succ k ih=>rw [show e+(k+1)=(e+k)+1 by omega,uk xs _ _ (by omega),ih (by omega)]
noncomputable def cW(xs:List OI)(e:Nat):List Nat:=fu xs e e
theorem ul(xs:List OI):cW xs 0=[]:=rfl
theorem m8(xs:List OI)(h:0 < e):cW xs e=cW xs (lb xs e)++[e]:=by
 obtain ⟨k,rfl⟩:∃ k,e=k+1:=⟨e - 1,by omega⟩
 have:=jq xs h;show (if k+1=0 then [] else fu xs k (lb xs (k+1))++[k+1])=_;rw [if_neg (by omega),zbm xs (show lb xs (k+1)<=k by omega)];rfl
theorem m7(xs:List OI):∀ e,(cW xs e).length<=e:=by
 intro e;induction e using Nat.strongRecOn with
 | ind e ih=>
  by_cases h:e=0
  ·subst h;simp [ul]
  ·have hl:=jq xs (e:=e) (by omega);rw [m8 xs (by omega),aO,cn];have:=ih _ hl;omega
noncomputable def sg(ss:List Int)(k:Nat):Int:=ss.getD k 0
noncomputable def Ris(n:Nat):Nat->List Nat->Prop
 | b,[]=>b=n
 | b,e::r=>b < e/\Ris n e r
theorem Ris.le{n:Nat}:∀ {b:Nat} {l:List Nat},Ris n b l->b<=n
 | _,[],h=>Nat.le_of_eq h
 | _,_::_,h=>Nat.le_trans (Nat.le_of_lt h.1) h.2.le
theorem Ris.at{n:Nat}:∀ {b:Nat} {l:List Nat},Ris n b l->∀ i,i < l.length->(b::l).getD i 0 < l.getD i 0/\l.getD i 0<=n
 | b,e::r,h,0,_=>⟨h.1,h.2.le⟩
 | b,e::r,h,i+1,hi=>by
  have:=Ris.at h.2 i (by simpa using hi);simpa [List.getD] using this
theorem dec_int(a b:Int):decide (V.int a=V.int b)=decide (a=b):=by
 by_cases h:a=b
 ·subst h;simp
 ·rw [aK h,aK λ z=>h (V.int.inj z)]
theorem oJ(h:k<=n):atI ((prL xs n).map V.int) (k:Int)=some (.int (pr xs k)):=
 dU (by rw [aH,oI xs n k h];rfl)
noncomputable def xO:Sp:=λ vs H Q _=>∃ (l:Addr) (xs:List OI),vs=[.ref l]/\iI H l xs/\xs.length<=1000/\∀ (f:Addr) (H':Hp),Same H H'->H f=none->H' f=some (.lst ((prL xs xs.length).map V.int))->Q (.ref f) H'
theorem zfb:(["begin", "found", "rooms", "end"]:List Str).Nodup:=by decide +kernel
theorem sc_least_prices:aB ["rooms", "found", "end"] ["rooms"] (ax qp):=by walk_at "sc"
theorem zgn(T:Txt K mg t)(iF:Cal P w K mg base CX0 1 "room_between" ["rooms", "begin", "end"] (rL K))(F:Fun K "least_prices" "least_prices" qp f fd):FnOk P w K mg base CX0 3 f fd ["rooms"] xO:=by
 refine F.ok sc_least_prices (λ vs H Q E h=>?_) (λ cdv A outer s H vs Q E hr h=>?_)
 ·obtain ⟨l,xs,rfl,_⟩:=h;rfl
 ·obtain ⟨l,xs,rfl,hR,hl,q⟩:=h;refine ⟨_,(ao (aI (i:=1) sc_least_prices.nd rfl (Or.inr rfl) (bD (aa aq ae)))
  (ao (dO PassesOwn.never rfl (wC (by rfl) T.dA (aa aq (aa (au bv (aR (cJ K) (by rfl) T.bH PyProof.Rows.Boot.«len» (aa (pv 0) ae)) aq) ae))) (aU (i:=2) sc_least_prices.nd rfl (Or.inr rfl))
   (am (bP (bW K PySem.F.plainAttrs_list PySem.F.slot_list_append PySem.F.type_list_append f9 (pv 1) (aa (aR (za3 K rfl) (by rfl) T.om PyProof.Rows.Boot.«min» (aa (cL (N:=["begin", "found", "rooms", "end"]) (fr:=[none,some 1,some 0,some 2]) ⟨rfl,rfl,rfl,rfl,rfl,rfl⟩ rfl (eG (by rfl) T.dA (aa (pv 2) ae))
    (λ C fp s H=>⟨aU (i:=0) zfb rfl (Or.inl rfl),bZ,(au bv (bj (bG K) (pv 1) (pv 0) (λ _ _=>rfl)) (iF.pe hr az (aa (pv 2) (aa (pv 0) (aa (pv 3) ae)))))⟩)) ae)) ae)))))
  (am (aC (pv 1))))),?_⟩
  walk_at "rd"
  intro f hf;have s0:Same H (upd H f (.lst [.int 0])):=Same.new hf;obtain ⟨as,ra,rl,_⟩:=qQ s0 hR;have la:(as.map V.ref).length=xs.length:=by rw [aj,rl]
  refine ⟨_,rfl,l,_,rfl,.inl (SqL.of ra),_,_,rfl,rfl,1,_,rfl,⟨by decide,by decide,by omega,by omega⟩,?_⟩;have en:((((as.map V.ref).length:Int)+1) - 1).toNat=xs.length:=by omega
  rw [en];refine ⟨gw (λ i σ H'=>∃ v:Option V,σ=[some (.ref l),some (.ref f),v]/\Same H H'/\H' f=some (.lst ((prL xs i).map V.int))) ⟨none,rfl,s0,ah⟩ ?_ ?_⟩
  ·rintro i σ H1 hi ⟨v,rfl,s1,h1⟩;have e1:1+(i:Int)=((i+1:Nat):Int):=by omega
   rw [e1];refine ⟨_,rfl,.inl ⟨rfl,_,SqL.of h1⟩,_,rfl,_,rfl,by omega,by omega,?_⟩;refine ⟨gQ (λ j acc H'=>Same H1 H'/\acc=((List.range j).map λ b=>pr xs b+lr xs b (i+1)).map V.int) ⟨Same.refl _,rfl⟩ (λ j acc H' hj hp=>by rw [hp.2,aj,aj,List.length_range];omega) (Nat.le_of_lt (small1000' (by omega))) ?_ ?_⟩
   ·rintro j acc H2 hj ⟨s2,rfl⟩;have e0:(0+(j:Int))=(j:Int):=Int.zero_add _;rw [e0];have hj':j<=i:=by omega
    refine ⟨Wk.set rfl,tT ⟨_,rfl,_,rfl,f,_,_,_,rfl,rfl,SqL.of (s2 _ _ h1),oJ hj',_,rfl,_,rfl,_,rfl,l,xs,j,i+1,rfl,qQ (s1.trans s2) hR,by omega,by omega,_,_,rfl,rfl,cw hj ⟨s2,?_⟩⟩⟩;rw [List.range_succ,aJ,aJ];rfl
   ·rintro acc H2 ⟨s2,rfl⟩ l2 hl2;have em:(((i+1:Nat):Int)).toNat=i+1:=by omega
    rw [em];have hne:((List.range (i+1)).map λ b=>pr xs b+lr xs b (i+1))≠[]:=by simp
    have h2:=s2 _ _ h1;have nf:f≠l2:=aF h2 hl2;refine ⟨l2,_,pr xs (i+1),rfl,SqL.of ah,by rw [kZ];exact vH hne,λ a ha=>by rw [kZ];exact zex a ha,?_⟩;refine ⟨f,_,_,rfl,rfl,by rw [ag nf];exact h2,by rw [aj,jA];exact small1000' (by omega),?_⟩;refine ⟨_,rfl,λ c o e=>?_,?_⟩
    ·rw [ag (aF e hf),ag (aF (s2 _ _ (s1 c o e)) hl2)];exact s2 _ _ (s1 c o e)
    ·rw [ah];have:prL xs (i+1)=prL xs i++[pr xs (i+1)]:=by
      rw [kZ];show prL xs i++[_]=_
      congr 3
      apply List.map_congr_left;intro b hb;rw [wI (by have:=List.mem_range.mp hb;omega)]
     rw [this,aJ];rfl
  ·rintro σ H1 ⟨v,rfl,s1,h1⟩;exact ⟨_,rfl,q f H1 s1 hf h1⟩
noncomputable def xR(K:W.Frag):Sp:=λ vs H Q _=>∃ (l f:Addr) (xs:List OI) (e:Nat),vs=[.ref l,.ref f,.int e]/\iI H l xs/\SqL K H f ((prL xs xs.length).map V.int)/\0 < e/\e<=xs.length/\Q (.int (lb xs e)) H
theorem sc_longest_begin:aB ["rooms", "found", "end", "begin"] ["rooms", "found", "end"] (ax qr):=by walk_at "sc"
theorem zgq(T:Txt K mg t)(iF:Cal P w K mg base CX0 1 "room_between" ["rooms", "begin", "end"] (rL K))(F:Fun K "longest_begin" "longest_begin" qr f fd):FnOk P w K mg base CX0 3 f fd ["rooms", "found", "end"] (xR K):=by
 refine F.ok sc_longest_begin (λ vs H Q E h=>?_) (λ cdv A outer s H vs Q E hr h=>?_)
 ·obtain ⟨l,f,xs,e,rfl,_⟩:=h;rfl
 ·obtain ⟨l,f,xs,e,rfl,hR,hS,h0,he,q⟩:=h;refine ⟨_,(ao (aI (i:=3) sc_longest_begin.nd rfl (Or.inl rfl) aq)
  (ao (oN PassesOwn.never (aQ dY (au bv (bj (bG K) (pv 1) (pv 3) (λ _ _=>rfl)) (iF.pe hr az (aa (pv 0) (aa (pv 3) (aa (pv 2) ae))))) (bj (bG K) (pv 1) (pv 2) (λ _ _=>rfl)) (aP _))
   (am (zhx (i:=3) sc_longest_begin.nd rfl (Or.inl rfl) aq zc8)))
  (am (aC (pv 3))))),?_⟩
  obtain ⟨b0,hb0,hh0⟩:=wJ xs h0;refine r6 (λ σ H'=>H'=H/\∃ b:Nat,σ=[some (.ref l),some (.ref f),some (.int e),some (.int b)]/\b < e/\∀ c,c < b->pr xs c+lr xs c e≠pr xs e) (λ σ _=>match σ with | [_,_,_,some (.int b)]=>e - b.toNat | _=>0)
   ⟨rfl,0,rfl,h0,λ c hc=>by omega⟩ ?_
  rintro m σ H' rfl ⟨rfl,b,rfl,hb,hn⟩;refine ⟨_,rfl,_,rfl,f,_,_,_,rfl,rfl,hS,oJ (by omega),_,rfl,_,rfl,_,rfl,l,xs,b,e,rfl,hR,hb,he,_,_,rfl,rfl,_,rfl,_,rfl,f,_,_,_,rfl,rfl,hS,oJ he,rfl,_,rfl,?_⟩;rw [dec_int];by_cases c:pr xs b+lr xs b e=pr xs e
  ·rw [aN c];refine ay ⟨_,rfl,?_⟩;rw [zdI hb c hn] at q;exact q
  ·rw [aK c];refine aE ⟨_,wN,?_⟩;refine ⟨_,rfl,_,_,rfl,rfl,⟨rfl,b+1,by simp,?_,?_⟩,?_⟩
   ·have:b < b0:=by
     rcases Nat.lt_trichotomy b b0 with h | h | h
     ·exact h
     ·subst h;exact absurd hh0 c
     ·exact absurd hh0 (hn b0 h)
    omega
   ·intro d hd;by_cases e2:d=b
    ·subst e2;exact c
    ·exact hn d (by omega)
   ·show e - ((b:Int)+1).toNat < e - (b:Int).toNat;omega
noncomputable def xE(K:W.Frag)(t:Ad):Sp:=λ vs H Q E=>∃ (p:Addr) (xs:List OI),vs=[.ref p]/\SqL K H p (xs.map ov)/\xs.length<=1000/\
 (okC xs=true->∀ (f:Addr) (H':Hp),Same H H'->H f=none->H' f=some (.lst (((cW xs xs.length).map λ (k:Nat)=>(k:Int)).map V.int))->Q (.ref f) H')/\(okC xs=false->∀ H',Same H H'->E (.ref t.cQ) none H')
theorem sc_cuts:aB ["values", "rooms", "found", "ends", "end"] ["values"] (ax pW):=by walk_at "sc"
theorem zf3(T:Txt K mg t)(lP:Cal P w K mg base (CXr P w) 4 "check_column" ["values"] (xB K t))(lN:Cal P w K mg base CX0 7 "block_rooms" ["values"] (xy K))(lY:Cal P w K mg base CX0 3 "least_prices" ["rooms"] xO)(lZ:Cal P w K mg base CX0 3 "longest_begin" ["rooms", "found", "end"] (xR K))(F:Fun K "cuts" "cuts" pW f fd):
  FnOk P w K mg base (CXr P w) 8 f fd ["values"] (xE K t):=by
 refine F.okX sc_cuts (λ vs H Q E h=>?_) (λ cdv A outer s H vs Q E hr h=>?_)
 ·obtain ⟨p,xs,rfl,_⟩:=h;rfl
 ·obtain ⟨p,xs,rfl,hS,hl,k1,k2⟩:=h;refine ⟨_,(ao (bP (lP.pe hr dj (aa (pv 0) ae)))
  (ao (aI (i:=1) sc_cuts.nd rfl (Or.inl rfl) (lN.pe hr az (aa (pv 0) ae)))
  (ao (aI (i:=2) sc_cuts.nd rfl (Or.inl rfl) (lY.pe hr az (aa (pv 1) ae)))
  (ao (aI (i:=3) sc_cuts.nd rfl (Or.inl rfl) (bD ae))
  (ao (aI (i:=4) sc_cuts.nd rfl (Or.inl rfl) (aR (cJ K) (by rfl) T.bH PyProof.Rows.Boot.«len» (aa (pv 0) ae)))
  (ao (PS.nox (oN PassesOwn.never (aQ gB (pv 4) aq (aP _))
   (ao (bP (bW K PySem.F.plainAttrs_list PySem.F.slot_list_append PySem.F.type_list_append f9 (pv 3) (aa (pv 4) ae)))
  (am (aI (i:=4) sc_cuts.nd rfl (Or.inl rfl) (lZ.pe hr az (aa (pv 1) (aa (pv 2) (aa (pv 4) ae)))))))))
  (am (aC (zho K rfl (by rfl) T.ju (by rfl) T.zfu (pv 3)))))))))),?_⟩
  refine ⟨_,rfl,p,xs,rfl,hS,hl,λ ok H1 s1=>?_,k2⟩;refine ⟨_,rfl,p,xs,rfl,s1.seq hS,hl,λ l H2 s2 hn2 R2=>?_⟩;refine ⟨_,rfl,l,xs,rfl,R2,hl,λ f H3 s3 hn3 h3=>?_⟩;have t3:=(s1.trans s2).trans s3
  walk_at "rd"
  intro c hc;have s4:Same H3 (upd H3 c (.lst [])):=Same.new hc;have t4:=t3.trans s4;have hS4:=t4.seq hS
  walk_at "rd"
  rw [aj];refine r6 (λ σ H'=>∃ (e:Nat) (es:List Nat),σ=[some (.ref p),some (.ref l),some (.ref f),some (.ref c),some (.int e)]/\Same H3 H'/\H' c=some (.lst ((es.map λ (k:Nat)=>(k:Int)).map V.int))/\e<=xs.length/\es.length+e<=xs.length/\cW xs xs.length=cW xs e++es.reverse)
   (λ σ _=>match σ with | [_,_,_,_,some (.int e)]=>e.toNat | _=>0) ⟨xs.length,[],rfl,s4,ah,Nat.le_refl _,by simp,by simp⟩ ?_
  rintro m σ H5 hm ⟨e,es,rfl,s5,h5,he,hes,hcu⟩;have hm:m=e:=by rw [hm];simp
  walk_at "rd"
  by_cases c0:0 < e
  ·rw [aN (show (0:Int) < (e:Int) by omega)];refine aE ⟨_,wN,?_⟩;have hlt:=jq xs c0;refine ⟨_,rfl,.inl ⟨rfl,_,SqL.of h5⟩,_,rfl,c,_,_,rfl,rfl,h5,by rw [aj,aj];exact br (by omega),?_⟩;have s6:Same H3 (upd H5 c (.lst ((es.map λ (k:Nat)=>(k:Int)).map V.int++[.int e]))):=λ b o q=>by
    rw [ag (aF q hc)];exact s5 b o q
   have h6:(upd H5 c (.lst ((es.map λ (k:Nat)=>(k:Int)).map V.int++[.int e]))) c=some (.lst ((es.map λ (k:Nat)=>(k:Int)).map V.int++[.int e])):=ah;generalize upd H5 c (.lst ((es.map λ (k:Nat)=>(k:Int)).map V.int++[.int e]))=H6 at s6 h6;refine ⟨_,rfl,_,rfl,_,rfl,l,f,xs,e,rfl,qQ (s3.trans s6) R2,SqL.of (s6 _ _ h3),c0,he,⟨lb xs e,es++[e],rfl,s6,?_,by omega,by rw [aO,cn];omega,?_⟩,?_⟩
   ·rw [h6,aJ,aJ];rfl
   ·rw [hcu,m8 xs c0,List.reverse_append];simp
   ·show (lb xs e:Int).toNat < m;omega
  ·rw [aK (show ¬ (0:Int) < (e:Int) by omega)];refine ay ?_;have e0:e=0:=by omega
   subst e0;rw [ul,List.nil_append] at hcu;refine ⟨_,rfl,c,_,rfl,SqL.of h5,λ r hr'=>?_⟩;refine k1 ok r _ (aM (t3.trans s5) hr') ((t3.trans s5).free hr') ?_;rw [ah,hcu,List.map_reverse,List.map_reverse]
theorem zbk(xs:List OI)(h:b<=e)(he:e<=xs.length):cK (xs.map ov) (some (b:Int)) (some (e:Int))=((xs.drop b).take (e - b)).map ov:=by
 unfold cK;rw [HT.sIx_nat,HT.sIx_nat,aj,Nat.min_eq_left (show b<=xs.length by omega),Nat.min_eq_left he,← List.map_drop,← List.map_take]
noncomputable def Rs:Nat->List Nat->Prop
 | _,[]=>True
 | b,e::r=>b < e/\Rs e r
theorem Rs.snoc:∀ {l:List Nat} {b k:Nat},Rs b l->b < k->(∀ d∈l,d < k)->Rs b (l++[k])
 | [],b,k,_,hb,_=>⟨hb,trivial⟩
 | e::r,b,k,h,hb,hl=>⟨h.1,Rs.snoc h.2 (hl e bB) λ d hd=>hl d (bp _ hd)⟩
theorem Rs.ris:∀ {l:List Nat} {b n:Nat},Rs b l->b < n->(∀ d∈l,d < n)->Ris n b (l++[n])
 | [],b,n,_,hb,_=>⟨hb,rfl⟩
 | e::r,b,n,h,hb,hl=>⟨h.1,Rs.ris h.2 (hl e bB) λ d hd=>hl d (bp _ hd)⟩
theorem wn(h1:xs.length<=64)(h2:xs.all okV=true):okC xs=true:=by
 unfold okC;rw [aN h1,h2];rfl
noncomputable abbrev gb(ds:List Nat):List V:=(ds.map λ (k:Nat)=>(k:Int)).map V.int
noncomputable def eu(n k:Nat):Nat:=if n / 2 ^ k % 2=1 then 49 else 48
noncomputable def bQ(n:Nat):Nat->List Nat
 | 0=>[]
 | w+1=>eu n w::bQ n w
theorem eT(n:Nat):∀ w,(bQ n w).length=w
 | 0=>rfl
 | w+1=>by rw [bQ,List.length_cons,eT n w]
theorem tG(n:Nat):∀ w,(List.range w).map (λ j=>eu n (w - 1 - j))=bQ n w
 | 0=>rfl
 | w+1=>by
  rw [List.range_succ_eq_map,List.map_cons,bQ,List.map_map,← tG n w]
  congr 1
  apply List.map_congr_left;intro j _;show eu n (w+1 - 1 - (j+1))=eu n (w - 1 - j)
  congr 1
  omega
noncomputable def gA(c:Nat):Str:=⟨#[c]⟩
noncomputable def bR(n w:Nat):Str:=⟨(bQ n w).toArray⟩
theorem cc(n w:Nat):(bR n w).length=w:=by
 show (bQ n w).toArray.size=w;rw [a9,eT]
theorem vx:("1" : Str)=gA 49:=by decide +kernel
theorem vv:("0" : Str)=gA 48:=by decide +kernel
theorem zbV(l:List Nat):(l.map λ c=>[c]).flatten=l:=by
 induction l with
 | nil=>rfl
 | cons a r ih=>rw [List.map_cons,List.flatten_cons,ih];rfl
theorem zcf(l:List Nat):bi (l.map gA)=⟨l.toArray⟩:=by
 apply i6;rw [eX,List.map_map];exact zbV l
theorem zjk(l:List Nat):((l.map gA).map (·.length)).sum=l.length:=by
 induction l with
 | nil=>rfl
 | cons a r ih=>rw [List.map_cons,List.map_cons,List.sum_cons,ih,List.length_cons];exact Nat.add_comm _ _
theorem zae{a:Int}(h:0<=a):Builtin.bitAnd a 1=((a.toNat % 2:Nat):Int):=by
 rw [PyProof.Rows.bitAnd_pp h (by decide)];show ((a.toNat &&& 1:Nat):Int)=_;rw [Nat.and_one_is_mod]
section
local macro_rules | `(tactic| walk_at "rd")=>`(tactic| (repeat (first | (apply Exists.intro) | (apply And.intro;(first | exact rfl | assumption | exact Or.inl (by assumption) | exact SqL.of (by assumption) | exact Or.inl (SqL.of (by assumption)) | exact ⟨_,by assumption⟩ | exact ⟨_,SqL.of (by assumption)⟩ | exact ⟨_,SqT.of (by assumption)⟩ | exact Or.inl ⟨rfl,_,SqL.of (by assumption)⟩ | omega | exact ⟨by decide,by decide⟩ | exact Or.inl ⟨by decide,by decide⟩ | exact Or.inr ⟨by decide,by decide⟩ | (show (0:Int) < _;omega) | exact bf rfl | exact gC _ _)))))
noncomputable def i4:Sp:=λ vs H Q _=>∃ n m:Nat,vs=[.int n,.int m]/\m<=1000/\∀ H',Same H H'->Q (.str (bR n m)) H'
theorem ze6:(["place", "number"]:List Str).Nodup:=by decide +kernel
theorem ziJ:aB ["number", "width"] ["number", "width"] (ax pZ):=by walk_at "sc"
theorem zga(T:Txt K mg t)(F:Fun K "in_bits" "in_bits" pZ f fd):FnOk P w K mg base CX0 1 f fd ["number", "width"] i4:=by
 refine F.ok ziJ (λ vs H Q E h=>?_) (λ cdv A outer s H vs Q E hr h=>?_)
 ·obtain ⟨n,m,rfl,_⟩:=h;rfl
 ·obtain ⟨n,m,rfl,hm,q⟩:=h;refine ⟨_,(am (aC (bW K PySem.F.plainAttrs_str PySem.F.slot_str_join PySem.F.type_str_join (iT K) aD (aa (cL (N:=["place", "number"]) (fr:=[none,some 0]) ⟨rfl,rfl,rfl,rfl,rfl,rfl⟩ rfl (zhs (by rfl) T.dA (aa (au cF (pv 1) aq) (aa (dZ d5 aq) (aa (dZ d5 aq) ae))))
    (λ C fp s H=>⟨aU (i:=0) ze6 rfl (Or.inl rfl),bZ,(dB (zhG K (au zg6 (au zg9 (pv 1) (pv 0)) aq)) aD aD)⟩)) ae)))),?_⟩
  walk_at "rd"
  have en:((m:Int) - 1 - -1).toNat=m:=by omega
  rw [en];refine ⟨zbd (λ i acc H'=>Same H H'/\acc=((List.range i).map λ j=>V.str (gA (eu n (m - 1 - j))))) ⟨Same.refl _,rfl⟩
   (λ i acc H' hi hp=>by rw [hp.2,aj,List.length_range];omega) (Nat.le_of_lt (br hm)) ?_ ?_⟩
  ·rintro i acc H' hi ⟨s1,rfl⟩;refine ⟨Wk.set rfl,tT ?_⟩;have e1:((m:Int) - 1 - i).toNat=m - 1 - i:=by omega
   have e2:((n:Int) / 2 ^ (m - 1 - i))=((n / 2 ^ (m - 1 - i):Nat):Int):=by rw [Int.natCast_ediv,Int.natCast_pow];rfl
   have e3:Builtin.bitAnd ((n:Int) / 2 ^ ((m:Int) - 1 - i).toNat) 1=((n / 2 ^ (m - 1 - i) % 2:Nat):Int):=by
    rw [e1,e2,zae (Int.natCast_nonneg _),Int.toNat_natCast]
   refine ⟨_,rfl,_,rfl,_,_,rfl,rfl,by omega,_,_,rfl,rfl,_,rfl,?_⟩;rw [e3];by_cases hb:n / 2 ^ (m - 1 - i) % 2=1
   ·have eb:eu n (m - 1 - i)=49:=if_pos hb;rw [hb];refine aE (cw hi ⟨s1,?_⟩);rw [List.range_succ,aJ,List.map_singleton,eb,vx]
   ·have eb:eu n (m - 1 - i)=48:=if_neg hb;rw [show n / 2 ^ (m - 1 - i) % 2=0 by omega];refine ay (cw hi ⟨s1,?_⟩);rw [List.range_succ,aJ,List.map_singleton,eb,vv]
  ·rintro acc H' ⟨s1,rfl⟩ l hl2;have e1:(List.range m).map (λ j=>V.str (gA (eu n (m - 1 - j))))=((bQ n m).map gA).map V.str:=by
    rw [← tG,List.map_map,List.map_map];rfl
   rw [e1];refine ⟨"", l,(bQ n m).map gA,rfl,rfl,SqL.of ah,?_,?_⟩
   ·rw [zjk,eT,aj,eT];show m+m * 0<=16777216;omega
   ·rw [iO,zcf];exact q _ (aM s1 hl2)
noncomputable def fo:OI->Nat
 | .none=>0
 | .some i=>(i+4000001).toNat
noncomputable def bX(o:OI):Str:=bR (fo o) 24
noncomputable def jO:Sp:=λ vs H Q _=>∃ o:OI,vs=[ov o]/\okV o=true/\∀ H',Same H H'->Q (.str (bX o)) H'
theorem zi3:aB ["value"] ["value"] (ax qO):=by walk_at "sc"
theorem zg1(T:Txt K mg t)(cO:Cal P w K mg base CX0 1 "in_bits" ["number", "width"] i4)(F:Fun K "value_bits" "value_bits" qO f fd):FnOk P w K mg base CX0 3 f fd ["value"] jO:=by
 refine F.ok zi3 (λ vs H Q E h=>?_) (λ cdv A outer s H vs Q E hr h=>?_)
 ·obtain ⟨o,rfl,_⟩:=h;rfl
 ·obtain ⟨o,rfl,ho,q⟩:=h;refine ⟨_,(am (aC (cO.pe hr az (aa (dB (aQ dM (pv 0) bx (aP _)) aq (au bv (pv 0) (bo T.ko))) (aa (bo T.fW) ae))))),?_⟩;refine ⟨_,rfl,rfl,_,rfl,?_⟩;cases o with
  | none=>exact aE ⟨0,24,rfl,by decide,q⟩
  | some i=>
   have hi : -4000000<=i/\i<=4000000:=of_decide_eq_true ho;refine ay ⟨_,rfl,_,_,rfl,rfl,(i+4000001).toNat,24,?_,by decide,q⟩;rw [Int.toNat_of_nonneg (by omega)];rfl
noncomputable def dD(xs:List OI):Str:=bi (xs.map bX)
theorem oH(xs:List OI):((xs.map bX).map (·.length)).sum=24 * xs.length:=by
 induction xs with
 | nil=>rfl
 | cons a r ih=>
  rw [List.map_cons,List.map_cons,List.sum_cons,ih,List.length_cons];have:(bX a).length=24:=cc _ _;omega
noncomputable def rH(K:W.Frag):Sp:=λ vs H Q _=>∃ (p:Addr) (xs:List OI),vs=[.ref p]/\SqL K H p (xs.map ov)/\xs.length<=1000/\xs.all okV=true/\∀ H',Same H H'->Q (.str (dD xs)) H'
theorem zfc:(["value"]:List Str).Nodup:=by decide +kernel
theorem ziV:aB ["values"] ["values"] (ax qv):=by walk_at "sc"
theorem zgz(T:Txt K mg t)(eN:Cal P w K mg base CX0 3 "value_bits" ["value"] jO)(F:Fun K "plain_bits" "plain_bits" qv f fd):FnOk P w K mg base CX0 4 f fd ["values"] (rH K):=by
 refine F.ok ziV (λ vs H Q E h=>?_) (λ cdv A outer s H vs Q E hr h=>?_)
 ·obtain ⟨p,xs,rfl,_⟩:=h;rfl
 ·obtain ⟨p,xs,rfl,hS,hl,hok,q⟩:=h;refine ⟨_,(am (aC (bW K PySem.F.plainAttrs_str PySem.F.slot_str_join PySem.F.type_str_join (iT K) aD (aa (cL (N:=["value"]) (fr:=[none]) ⟨rfl,rfl,rfl,rfl,rfl,rfl⟩ rfl (cH (pv 0))
    (λ C fp s H=>⟨aU (i:=0) zfc rfl (Or.inl rfl),bZ,(eN.pe hr az (aa (pv 0) ae))⟩)) ae)))),?_⟩
  walk_at "rd"
  refine ⟨de (xs:=xs.map ov) (λ i acc H'=>Same H H'/\acc=((xs.take i).map λ o=>V.str (bX o))) ⟨Same.refl _,rfl⟩ ?_ ?_ ?_ ?_⟩
  ·rintro i acc H' hi ⟨s1,rfl⟩;refine ⟨s1.seq hS,?_⟩;rw [aj,bc];omega
  ·rw [aj];exact Nat.le_of_lt (br hl)
  ·rintro i x acc H' hx hlt ⟨s1,rfl⟩;rw [aj] at hlt;have ex:xs[i]?=some xs[i]:=by simp [hlt]
   rw [aH,ex] at hx;cases hx;refine ⟨Wk.set rfl,tT ⟨_,rfl,xs[i],rfl,List.all_eq_true.mp hok _ (List.getElem_mem hlt),λ H2 s2=>cw (by rw [aj];exact hlt) ⟨s1.trans s2,?_⟩⟩⟩;rw [List.take_add_one,ex,aJ];rfl
  ·rintro acc H' ⟨s1,rfl⟩ l hl2;have e1:(xs.take (xs.map ov).length).map (λ o=>V.str (bX o))=(xs.map bX).map V.str:=by
    rw [aj,bd,List.map_map];rfl
   rw [e1];refine ⟨"", l,xs.map bX,rfl,rfl,SqL.of ah,?_,?_⟩
   ·rw [oH];show 24 * xs.length+_ * 0<=16777216;omega
   ·rw [iO];exact q _ (aM s1 hl2)
end
noncomputable def bu(ns:List Int):Int:=(dn (0::ns)).getD 0
theorem zjQ{ns:List Int}(h0:∀ a∈ns,0<=a)(h1:M∈ns)(h2:∀ a∈ns,a<=M):bu ns=M:=by
 have e:dn (0::ns)=some M:=zep (bp _ h1) λ i hi=>by
  rcases al_mc.mp hi with rfl | hi
  ·exact h0 M h1
  ·exact h2 i hi
 unfold bu;rw [e];rfl
theorem nV:∀ {l:List Int},l≠[]->∃ m,dn l=some m:=by
 intro l h;cases l with
 | nil=>exact absurd rfl h
 | cons a r=>exact ⟨_,rfl⟩
theorem zjO(ns:List Int):bu ns∈0::ns:=by
 obtain ⟨m,e⟩:=nV (l:=0::ns) (by simp);have:bu ns=m:=by unfold bu;rw [e];rfl
 rw [this];exact kD e
theorem lD{ns:List Int}{k:Int}(hk:0 < k)(h:∀ n∈ns,0<=n/\n < k):0<=bu ns/\bu ns < k:=by
 rcases al_mc.mp (zjO ns) with e | e
 ·rw [e];exact ⟨Int.le_refl _,hk⟩
 ·exact h _ e
theorem hV(h:n < 2 ^ k):aL n<=k:=by
 rw [oh];by_cases e:n=0
 ·rw [if_pos e];exact Nat.zero_le _
 ·rw [if_neg e];exact (Nat.log2_lt e).mpr h
theorem il:1000000<=sizeLine:=by decide +kernel
theorem gJ{α:Type}{f:α->Str}{k:Nat}:∀ {l:List α},(∀ x∈l,(f x).length=k)->((l.map f).map (·.length)).sum=k * l.length
 | [],_=>rfl
 | a::r,h=>by
  rw [List.map_cons,List.map_cons,List.sum_cons,gJ (l:=r) λ x hx=>h x (bp _ hx),h a (bB ..),List.length_cons,Nat.mul_succ];exact Nat.add_comm _ _
theorem cM(a b:Str):(a++b).length=a.length+b.length:=by
 show (a++b).cps.size=a.cps.size+b.cps.size;rw [← Array.length_toList,df,aO,Array.length_toList,Array.length_toList]
theorem zhU{p:Addr}{ns:List Int}(hS:SqL K H p (ns.map V.int))(h0:∀ a∈ns,0<=a)(q:Q (.int (bu ns)) H):wU K [.ref p] (.int 0) H Q:=
 ⟨p,ns,rfl,hS,λ e=>by subst e;exact q,λ M h1 h2=>by rw [← zjQ h0 h1 h2];exact q⟩
section
local macro_rules | `(tactic| walk_at "rd")=>`(tactic| (repeat (first | (apply Exists.intro) | (apply And.intro;(first | exact rfl | assumption | exact Or.inl (by assumption) | exact SqL.of (by assumption) | exact Or.inl (SqL.of (by assumption)) | exact ⟨_,by assumption⟩ | exact ⟨_,SqL.of (by assumption)⟩ | exact ⟨_,SqT.of (by assumption)⟩ | exact Or.inl ⟨rfl,_,SqL.of (by assumption)⟩ | omega | exact ⟨by decide,by decide⟩ | exact Or.inl ⟨by decide,by decide⟩ | exact Or.inr ⟨by decide,by decide⟩ | (show (0:Int) < _;omega) | exact bf rfl | exact gC _ _)))))
noncomputable def dI(ns:List Int):Str:=bR (aL (bu ns).toNat) 5++bi (ns.map λ n=>bR n.toNat (aL (bu ns).toNat))
noncomputable def rq(K:W.Frag):Sp:=λ vs H Q _=>∃ (p:Addr) (ns:List Int),vs=[.ref p]/\SqL K H p (ns.map V.int)/\ns.length<=1000/\(∀ n∈ns,0<=n/\n < 2 ^ 30)/\∀ H',Same H H'->Q (.str (dI ns)) H'
theorem ze4:(["number", "width"]:List Str).Nodup:=by decide +kernel
theorem sc_even_bits:aB ["numbers", "width"] ["numbers"] (ax pX):=by walk_at "sc"
theorem zf5(T:Txt K mg t)(eK:Cal P w K mg base CX0 1 "needed" ["number"] io)(cO:Cal P w K mg base CX0 1 "in_bits" ["number", "width"] i4)(F:Fun K "even_bits" "even_bits" pX f fd):FnOk P w K mg base CX0 3 f fd ["numbers"] (rq K):=by
 refine F.ok sc_even_bits (λ vs H Q E h=>?_) (λ cdv A outer s H vs Q E hr h=>?_)
 ·obtain ⟨p,ns,rfl,_⟩:=h;rfl
 ·obtain ⟨p,ns,rfl,hS,hl,hn,q⟩:=h;refine ⟨_,(ao (aI (i:=1) sc_even_bits.nd rfl (Or.inr rfl) (eK.pe hr az (aa (wy (zaZ K rfl) (by rfl) T.oj PyProof.Rows.Boot.«max» (aa (pv 0) ae) aq) ae)))
  (am (aC (au gf (cO.pe hr az (aa (pv 1) (aa (bo T.jm) ae))) (bW K PySem.F.plainAttrs_str PySem.F.slot_str_join PySem.F.type_str_join (iT K) aD (aa (cL (N:=["number", "width"]) (fr:=[none,some 1]) ⟨rfl,rfl,rfl,rfl,rfl,rfl⟩ rfl (cH (pv 0))
    (λ C fp s H=>⟨aU (i:=0) ze4 rfl (Or.inl rfl),bZ,(cO.pe hr az (aa (pv 0) (aa (pv 1) ae)))⟩)) ae)))))),?_⟩
  obtain ⟨t0,t1⟩:=lD (k:=2 ^ 30) (by decide) hn;have hw:aL (bu ns).toNat<=30:=hV (by omega);refine ⟨_,rfl,?_⟩;dsimp only [dQ,tC];refine zhU hS (λ a ha=>(hn a ha).1) ?_;refine ⟨_,rfl,t0,?_⟩
  walk_at "rd"
  intro H1 s1;have hS1:=s1.seq hS
  walk_at "rd"
  refine ⟨de (xs:=ns.map V.int) (λ i acc H'=>Same H H'/\acc=((ns.take i).map λ n=>V.str (bR n.toNat (aL (bu ns).toNat)))) ⟨s1,rfl⟩ ?_ ?_ ?_ ?_⟩
  ·rintro i acc H' hi ⟨s2,rfl⟩;refine ⟨s2.seq hS,?_⟩;rw [aj,bc];omega
  ·rw [aj];exact Nat.le_of_lt (br hl)
  ·rintro i x acc H' hx hlt ⟨s2,rfl⟩;rw [aj] at hlt;have ex:ns[i]?=some ns[i]:=by simp [hlt]
   rw [aH,ex] at hx;cases hx;obtain ⟨n0,_⟩:=hn _ (List.getElem_mem hlt);have en:V.int ns[i]=V.int (ns[i].toNat:Int):=by rw [Int.toNat_of_nonneg n0]
   refine ⟨Wk.set rfl,tT ⟨_,rfl,_,rfl,ns[i].toNat,aL (bu ns).toNat,?_,by omega,λ H2 s3=>cw (by rw [aj];exact hlt) ⟨s2.trans s3,?_⟩⟩⟩
   ·show [V.int ns[i],V.int (aL (bu ns).toNat:Int)]=_;rw [en]
   ·rw [List.take_add_one,ex,aJ];rfl
  ·rintro acc H' ⟨s2,rfl⟩ l hl2;have e1:(ns.take (ns.map V.int).length).map (λ n=>V.str (bR n.toNat (aL (bu ns).toNat)))=(ns.map λ n=>bR n.toNat (aL (bu ns).toNat)).map V.str:=by
    rw [aj,bd,List.map_map];rfl
   rw [e1];have sz:((ns.map λ n=>bR n.toNat (aL (bu ns).toNat)).map (·.length)).sum=aL (bu ns).toNat * ns.length:=gJ λ x _=>cc _ _;have le:aL (bu ns).toNat * ns.length<=30 * 1000:=Nat.mul_le_mul hw hl;refine ⟨"", l,ns.map λ n=>bR n.toNat (aL (bu ns).toNat),rfl,rfl,SqL.of ah,?_,?_⟩
   ·rw [sz];show _+_ * 0<=16777216;omega
   ·rw [iO];refine ⟨_,_,rfl,rfl,?_,q _ (aM s2 hl2)⟩;rw [cc,fz,sz];show (5:Nat)+aL (bu ns).toNat * ns.length<=sizeLine;have:=il;omega
noncomputable def aZ(xs:List OI):Int:=(cz (be xs)).getD 0
noncomputable def gs(xs:List OI):Str:=bX (some (aZ xs))++dI (xs.map (above (aZ xs)))
theorem zje{i:Int}(h:i∈be xs):some i∈xs:=by
 unfold be at h;obtain ⟨o,h1,h2⟩:=List.mem_filterMap.mp h;cases h2;exact h1
theorem iU{i:Int}(h:okV (some i)=true): -4000000<=i/\i<=4000000:=of_decide_eq_true h
theorem zdN(h1:M∈be xs)(h2:∀ a∈be xs,M<=a):aZ xs=M:=by
 obtain ⟨m,e⟩:=jt (l:=be xs) (λ z=>by rw [z] at h1;cases h1);have a1:=iS e M h1;have a2:=h2 m (js e);unfold aZ;rw [e];show m=M;omega
theorem nJ(h:xs.all okV=true):okV (some (aZ xs))=true:=by
 unfold aZ;cases e:cz (be xs) with
 | none=>decide
 | some m=>exact List.all_eq_true.mp h _ (zje (js e))
theorem j7(h:xs.all okV=true):∀ n∈xs.map (above (aZ xs)),0<=n/\n < 2 ^ 30:=by
 intro n hn;obtain ⟨v,hv,rfl⟩:=List.mem_map.mp hn;refine ⟨zab hv,?_⟩;have l:=iU (nJ h);cases v with
 | none=>show (0:Int) < 2 ^ 30;decide
 | some i=>
  have:=iU (List.all_eq_true.mp h _ hv);show i - aZ xs+1 < 2 ^ 30;omega
theorem zhW{p:Addr}(hS:SqL K H p ((be xs).map V.int))(q:Q (.int (aZ xs)) H):wV K [.ref p] (.int 0) H Q:=
 ⟨p,be xs,rfl,hS,λ e=>by unfold aZ at q;rw [e] at q;exact q,λ M h1 h2=>by rw [← zdN h1 h2];exact q⟩
theorem ki{ns:List Int}(h:∀ n∈ns,0<=n/\n < 2 ^ 30)(hl:ns.length<=1000):(dI ns).length<=100000:=by
 obtain ⟨t0,t1⟩:=lD (k:=2 ^ 30) (by decide) h;have hw:aL (bu ns).toNat<=30:=hV (by omega);have le:aL (bu ns).toNat * ns.length<=30 * 1000:=Nat.mul_le_mul hw hl;unfold dI;rw [cM,cc,fz,gJ (k:=aL (bu ns).toNat) λ x _=>cc _ _];omega
noncomputable def xw(K:W.Frag):Sp:=λ vs H Q _=>∃ (p:Addr) (xs:List OI),vs=[.ref p]/\SqL K H p (xs.map ov)/\xs.length<=1000/\xs.all okV=true/\∀ H',Same H H'->Q (.str (gs xs)) H'
theorem zeY:(["value"]:List Str).Nodup:=by decide +kernel
theorem zeZ:(["value", "least"]:List Str).Nodup:=by decide +kernel
theorem sc_base_bits:aB ["values", "least"] ["values"] (ax pL):=by walk_at "sc"
theorem zfQ(T:Txt K mg t)(eN:Cal P w K mg base CX0 3 "value_bits" ["value"] jO)(iA:Cal P w K mg base CX0 3 "even_bits" ["numbers"] (rq K))(F:Fun K "base_bits" "base_bits" pL f fd):FnOk P w K mg base CX0 4 f fd ["values"] (xw K):=by
 refine F.ok sc_base_bits (λ vs H Q E h=>?_) (λ cdv A outer s H vs Q E hr h=>?_)
 ·obtain ⟨p,xs,rfl,_⟩:=h;rfl
 ·obtain ⟨p,xs,rfl,hS,hl,hok,q⟩:=h;have el:(xs.map ov).length=xs.length:=aj _;refine ⟨_,(ao (aI (i:=1) sc_base_bits.nd rfl (Or.inr rfl) (wy (za2 K rfl) (by rfl) T.om PyProof.Rows.Boot.«min» (aa (cL (N:=["value"]) (fr:=[none]) ⟨rfl,rfl,rfl,rfl,rfl,rfl⟩ rfl (cH (pv 0))
    (λ C fp s H=>⟨aU (i:=0) zeY rfl (Or.inl rfl),(wG (aQ kR (pv 0) bx (aP _))),(pv 0)⟩)) ae) aq))
  (am (aC (au gf (eN.pe hr az (aa (pv 1) ae)) (iA.pe hr az (aa (cL (N:=["value", "least"]) (fr:=[none,some 1]) ⟨rfl,rfl,rfl,rfl,rfl,rfl⟩ rfl (cH (pv 0))
    (λ C fp s H=>⟨aU (i:=0) zeZ rfl (Or.inl rfl),bZ,(dB (aQ dM (pv 0) bx (aP _)) aq (au bv (au cF (pv 0) (pv 1)) aq))⟩)) ae)))))),?_⟩
  walk_at "rd"
  refine ⟨de (xs:=xs.map ov) (λ i acc H'=>Same H H'/\acc=(be (xs.take i)).map V.int) ⟨Same.refl _,rfl⟩ ?_ (Nat.le_of_lt (br (by omega))) ?_ ?_⟩
  ·rintro i acc H' hi ⟨s1,rfl⟩;refine ⟨s1.seq hS,?_⟩;rw [aj];have h1:(be (xs.take i)).length<=(xs.take i).length:=List.length_filterMap_le _ _;rw [bc] at h1;omega
  ·rintro i x acc H' hx hlt ⟨s1,rfl⟩;have hlt':i < xs.length:=by rwa [aj] at hlt
   rw [aH,getD_at' hlt'] at hx;cases hx;refine ⟨Wk.set rfl,?_⟩
   walk_at "rd"
   cases e:at' xs i with
   | none=>
    refine ay (cw hlt ⟨s1,?_⟩);rw [cN hlt',e,qX]
   | some z=>
    refine aE ⟨_,rfl,cw hlt ⟨s1,?_⟩⟩;rw [cN hlt',e,qY,aJ];rfl
  ·rintro acc H' ⟨s1,rfl⟩ l hl2;rw [el,bd];have s2:Same H (upd H' l (.lst ((be xs).map V.int))):=aM s1 hl2;have h2:(upd H' l (.lst ((be xs).map V.int))) l=some (.lst ((be xs).map V.int)):=ah;generalize upd H' l (.lst ((be xs).map V.int))=H2 at s2 h2;have hS2:=s2.seq hS;dsimp only [dQ,tC];refine zhW (SqL.of h2) ?_;refine ⟨_,rfl,some (aZ xs),rfl,nJ hok,λ H3 s3=>?_⟩;have s23:=s2.trans s3;have hS3:=s23.seq hS
   walk_at "rd"
   refine ⟨de (xs:=xs.map ov) (λ i acc H'=>Same H H'/\acc=((xs.take i).map (above (aZ xs))).map V.int) ⟨s23,rfl⟩ ?_ (Nat.le_of_lt (br (by omega))) ?_ ?_⟩
   ·rintro i acc H4 hi ⟨s4,rfl⟩;refine ⟨s4.seq hS,?_⟩;rw [aj,aj,bc];omega
   ·rintro i x acc H4 hx hlt ⟨s4,rfl⟩;have hlt':i < xs.length:=by rwa [aj] at hlt
    rw [aH,getD_at' hlt'] at hx;cases hx;refine ⟨Wk.set rfl,tT ⟨_,rfl,rfl,_,rfl,?_⟩⟩;cases e:at' xs i with
    | none=>
     refine aE (cw hlt ⟨s4,?_⟩);rw [cN hlt',e,aJ,aJ];rfl
    | some z=>
     refine ay ⟨_,rfl,_,rfl,_,_,rfl,rfl,_,_,rfl,rfl,cw hlt ⟨s4,?_⟩⟩;rw [cN hlt',e,aJ,aJ];rfl
   ·rintro acc H4 ⟨s4,rfl⟩ l4 hl4;rw [el,bd];have le:(xs.map (above (aZ xs))).length<=1000:=by rw [aj];exact hl
    refine ⟨l4,_,rfl,SqL.of ah,le,j7 hok,λ H5 s5=>?_⟩;refine ⟨_,_,rfl,rfl,?_,q _ ((aM s4 hl4).trans s5)⟩;have a1:(bX (some (aZ xs))).length=24:=cc _ _;have a2:=ki (j7 hok) le;have a3:=il;omega
end
theorem rP(xs:List OI)(i:Nat):stp xs (i+2)=stp xs (i+1)++[bV ((at' xs (i+1)).getD 0 - (at' xs i).getD 0)]:=by
 rw [stp,if_pos (Nat.le_add_left 1 i)];rfl
theorem u7(h:xs.all okV=true)(i:Nat): -4000000<=(at' xs i).getD 0/\(at' xs i).getD 0<=4000000:=by
 by_cases hi:i < xs.length
 ·have hm:=List.all_eq_true.mp h _ (aS (getD_at' hi));cases e:at' xs i with
  | none=>exact ⟨by decide,by decide⟩
  | some z=>rw [e] at hm;exact of_decide_eq_true hm
 ·have e:at' xs i = .none:=by
   unfold at';simp [List.getD,List.getElem?_eq_none (Nat.le_of_not_lt hi)]
  rw [e];exact ⟨by decide,by decide⟩
theorem jQ{xs:List OI}(h:xs.all okV=true):∀ n,∀ v∈stp xs n,0<=v/\v < 2 ^ 30
 | 0=>λ v hv=>by cases hv
 | 1=>λ v hv=>by cases hv
 | n+2=>λ v hv=>by
  rw [rP] at hv;rcases al_mp.mp hv with hv | hv
  ·exact jQ h (n+1) v hv
  ·have e:v=_:=al_mi.mp hv;rw [e];refine ⟨nc _,?_⟩;have a:=u7 h (n+1);have b:=u7 h n;unfold bV
   split <;> omega
section
local macro_rules | `(tactic| walk_at "rd")=>`(tactic| (repeat (first | (apply Exists.intro) | (apply And.intro;(first | exact rfl | assumption | exact Or.inl (by assumption) | exact SqL.of (by assumption) | exact Or.inl (SqL.of (by assumption)) | exact ⟨_,by assumption⟩ | exact ⟨_,SqL.of (by assumption)⟩ | exact ⟨_,SqT.of (by assumption)⟩ | exact Or.inl ⟨rfl,_,SqL.of (by assumption)⟩ | omega | exact ⟨by decide,by decide⟩ | exact Or.inl ⟨by decide,by decide⟩ | exact Or.inr ⟨by decide,by decide⟩ | (show (0:Int) < _;omega) | exact bf rfl | exact gC _ _)))))
noncomputable def gH(xs:List OI):Str:=bX (at' xs 0)++dI (stp xs xs.length)
theorem zbl(xs:List OI)(h:0 < xs.length):cK (xs.map ov) (some 1) none=(xs.drop 1).map ov:=by
 unfold cK;rw [HT.sIx_none,show (1:Int)=((1:Nat):Int) from rfl,HT.sIx_nat,aj,Nat.min_eq_left h,← List.map_drop,List.take_of_length_le (by simp)]
theorem jv(hn : .none∉xs)(hi:i < xs.length):ov (at' xs i) = .int ((at' xs i).getD 0):=by
 cases e:at' xs i with
 | none=>exact absurd (e ▸ aS (getD_at' hi)) hn
 | some z=>rfl
noncomputable def x8(K:W.Frag):Sp:=λ vs H Q _=>∃ (p:Addr) (xs:List OI),vs=[.ref p]/\SqL K H p (xs.map ov)/\0 < xs.length/\xs.length<=1000/\xs.all okV=true/\.none∉xs/\∀ H',Same H H'->Q (.str (gH xs)) H'
theorem vV:(["ahead", "value"]:List Str).Nodup:=by decide +kernel
theorem sc_steps_bits:aB ["values", "steps"] ["values"] (ax qI):=by walk_at "sc"
theorem zgP(T:Txt K mg t)(jU:Cal P w K mg base CX0 1 "folded" ["step"] lm)(eN:Cal P w K mg base CX0 3 "value_bits" ["value"] jO)(iA:Cal P w K mg base CX0 3 "even_bits" ["numbers"] (rq K))(F:Fun K "steps_bits" "steps_bits" qI f fd):
  FnOk P w K mg base CX0 4 f fd ["values"] (x8 K):=by
 refine F.ok sc_steps_bits (λ vs H Q E h=>?_) (λ cdv A outer s H vs Q E hr h=>?_)
 ·obtain ⟨p,xs,rfl,_⟩:=h;rfl
 ·obtain ⟨p,xs,rfl,hS,h0,hl,hok,hn,q⟩:=h;refine ⟨_,(ao (iZ (i:=1) sc_steps_bits.nd rfl (Or.inl rfl) (N:=["ahead", "value"]) (fr:=[none,none]) ⟨rfl,rfl,rfl,rfl,rfl,rfl⟩ rfl (wE K (by rfl) T.kM (aa (pv 0) (aa (gg (im K) (pv 0) (eI aq) iY) ae)))
    (λ C fp s H=>⟨gE K (n:=2) rfl (dC (aU (i:=0) vV rfl (Or.inl rfl)) (dC (aU (i:=1) vV rfl (Or.inl rfl)) gF)),bZ,(jU.pe hr az (aa (au cF (pv 1) (pv 0)) ae))⟩))
  (am (aC (au gf (eN.pe hr az (aa (bj (bG K) (pv 0) aq (λ _ _=>rfl)) ae)) (iA.pe hr az (aa (pv 1) ae)))))),?_⟩
  walk_at "rd"
  intro l1 hl1;rw [zbl xs h0];have s1:Same H (upd H l1 (.lst ((xs.drop 1).map ov))):=Same.new hl1;have h1:(upd H l1 (.lst ((xs.drop 1).map ov))) l1=some (.lst ((xs.drop 1).map ov)):=ah;generalize upd H l1 (.lst ((xs.drop 1).map ov))=H1 at s1 h1;have hS1:=s1.seq hS;refine ⟨p,l1,_,_,rfl,hS1,SqL.of h1,?_⟩;refine ⟨ui (xs:=xs.map ov) (ys:=(xs.drop 1).map ov) (λ i acc H'=>Same H1 H'/\acc=(stp xs (i+1)).map V.int) ⟨Same.refl _,rfl⟩
   (xs.length - 1) (by rw [aj,aj,List.length_drop];omega) (λ i acc H' hi hp'=>⟨hp'.1.seq hS1,SqL.of (hp'.1 _ _ h1),by rw [hp'.2,aj,gI];omega⟩) (Nat.le_of_lt (br (by omega))) ?_ ?_⟩
  ·rintro i x y acc H3 T' hx' hy' hi ⟨s3,rfl⟩ hT;have hi1:i < xs.length:=by omega
   have hi2:i+1 < xs.length:=by omega
   have ex:x = .int ((at' xs i).getD 0):=by
    rw [aH,getD_at' hi1] at hx';cases hx';exact jv hn hi1
   have ey:y = .int ((at' xs (i+1)).getD 0):=by
    rw [aH,List.getElem?_drop,Nat.add_comm 1 i,getD_at' hi2] at hy';cases hy';exact jv hn hi2
   subst ex ey;have s4:Same H1 (upd H3 T' (.tup [.int ((at' xs i).getD 0),.int ((at' xs (i+1)).getD 0)])):=aM s3 hT;refine ⟨T',_,rfl,SqT.of ah,rfl,_,_,rfl,_,_,rfl,rfl,(Wk.set rfl).trans (Wk.set rfl),tT ?_⟩;refine ⟨_,rfl,_,rfl,_,_,rfl,rfl,_,rfl,cw hi ⟨s4,?_⟩⟩;rw [rP,aJ];rfl
  ·rintro acc H3 ⟨s3,rfl⟩ l3 hl3;have e1:xs.length - 1+1=xs.length:=by omega
   rw [e1];have s4:Same H (upd H3 l3 (.lst ((stp xs xs.length).map V.int))):=aM (s1.trans s3) hl3;have h4:(upd H3 l3 (.lst ((stp xs xs.length).map V.int))) l3=some (.lst ((stp xs xs.length).map V.int)):=ah;generalize upd H3 l3 (.lst ((stp xs xs.length).map V.int))=H4 at s4 h4;have hS4:=s4.seq hS;have a0:atI (xs.map ov) 0=some (ov (at' xs 0)):=dU (j:=0) (by rw [aH,getD_at' h0];rfl);have le:(stp xs xs.length).length<=1000:=by rw [← e1,gI];omega
   refine ⟨_,rfl,p,_,_,_,rfl,rfl,hS4,a0,at' xs 0,rfl,List.all_eq_true.mp hok _ (aS (getD_at' h0)),λ H5 s5=>?_⟩;refine ⟨_,rfl,l3,_,rfl,SqL.of (s5 _ _ h4),le,jQ hok _,λ H6 s6=>?_⟩;refine ⟨_,_,rfl,rfl,?_,q _ ((s4.trans s5).trans s6)⟩;have a1:(bX (at' xs 0)).length=24:=cc _ _;have a2:=ki (jQ hok xs.length) le;have a3:=il;omega
end
noncomputable def gi(rs:List (OI × Nat))(v:OI):List (OI × Nat):=match rs.getLast? with
 | some (u,k)=>if u=v then rs.dropLast++[(v,k+1)] else rs++[(v,1)]
 | .none=>[(v,1)]
noncomputable def b9(xs:List OI):List (OI × Nat):=xs.foldl gi []
theorem jF(xs:List OI)(v:OI):b9 (xs++[v])=gi (b9 xs) v:=by
 unfold b9;rw [List.foldl_append];rfl
theorem zic(v:OI):gi [] v=[(v,1)]:=rfl
theorem jD(rs:List (OI × Nat))(u:OI)(k:Nat)(v:OI):gi (rs++[(u,k)]) v=if u=v then rs++[(v,k+1)] else (rs++[(u,k)])++[(v,1)]:=by
 unfold gi;rw [List.getLast?_append];simp
theorem zia(rs:List (OI × Nat))(v:OI):(gi rs v).length<=rs.length+1:=by
 rcases List.eq_nil_or_concat rs with rfl | ⟨r,⟨u,k⟩,rfl⟩
 ·exact Nat.le_refl _
 ·rw [List.concat_eq_append,jD]
  split <;> simp
theorem jE(xs:List OI):(b9 xs).length<=xs.length:=by
 rcases List.eq_nil_or_concat xs with rfl | ⟨r,v,e⟩
 ·exact Nat.le_refl _
 ·have ih:=jE r;have:=zia (b9 r) v;rw [e,List.concat_eq_append,jF,aO,cn];omega
termination_by xs.length
decreasing_by (rw [e,List.concat_eq_append,aO];exact Nat.lt_succ_self _)
section
local macro_rules | `(tactic| walk_at "rd")=>`(tactic| (repeat (first | (apply Exists.intro) | (apply And.intro;(first | exact rfl | assumption | exact Or.inl (by assumption) | exact SqL.of (by assumption) | exact Or.inl (SqL.of (by assumption)) | exact ⟨_,by assumption⟩ | exact ⟨_,SqL.of (by assumption)⟩ | exact ⟨_,SqT.of (by assumption)⟩ | exact Or.inl ⟨rfl,_,SqL.of (by assumption)⟩ | omega | exact ⟨by decide,by decide⟩ | exact Or.inl ⟨by decide,by decide⟩ | exact Or.inr ⟨by decide,by decide⟩ | (show (0:Int) < _;omega) | exact bf rfl | exact gC _ _)))))
noncomputable def mx(H:Hp)(l:Addr)(rs:List (OI × Nat)):Prop:=∃ as:List Addr,H l=some (.lst (as.map V.ref))/\as.length=rs.length/\∀ (j:Nat) (a:Addr) (v:OI) (k:Nat),as[j]?=some a->rs[j]?=some (v,k)->H a=some (.tup [ov v,.int k])
theorem oR{l:Addr}{rs:List (OI × Nat)}(g:H l=some (.lst zs))(ea:as.length=rs.length)(el:∀ (j:Nat) (a:Addr) (v:OI) (k:Nat),as[j]?=some a->rs[j]?=some (v,k)->H a=some (.tup [ov v,.int k]))(hT:H a'=none):
  mx (upd (upd H a' (.tup [ov v,.int k])) l (.lst (as.map V.ref++[.ref a']))) l (rs++[(v,k)]):=by
 refine ⟨as++[a'],?_,by simp [ea],λ j a u m e1 e2=>?_⟩
 ·rw [ah,aJ];rfl
 ·by_cases hj:j < as.length
  ·rw [List.getElem?_append_left hj] at e1;rw [List.getElem?_append_left (by omega)] at e2;have e:=el j a u m e1 e2;rw [ag (cZ e g (by intro z;cases z)),ag (aF e hT)];exact e
  ·rw [List.getElem?_append_right (by omega)] at e1;rw [List.getElem?_append_right (by omega)] at e2;have h0:j - as.length=0:=by
    have:=(al_gs.mp e1).1;simp at this;omega
   rw [h0] at e1;rw [show j - rs.length=0 by omega] at e2;cases e1;cases e2;rw [ag (λ z=>by rw [z,g] at hT;cases hT),ah]
theorem qS{l:Addr}{o':HO}(s4:Same H H4)(hT:H4 a'=none)(hl:H l=none):Same H (upd (upd H4 a' o) l o'):=λ b z e=>by
 rw [ag (aF e hl)];exact aM s4 hT b z e
noncomputable def x6(K:W.Frag):Sp:=λ vs H Q _=>∃ (p:Addr) (xs:List OI),vs=[.ref p]/\SqL K H p (xs.map ov)/\xs.length<=1000/\∀ (l:Addr) (H':Hp),Same H H'->H l=none->mx H' l (b9 xs)->Q (.ref l) H'
theorem sc_runs_of:aB ["values", "runs", "value"] ["values"] (ax qH):=by walk_at "sc"
theorem zgN(T:Txt K mg t)(F:Fun K "runs_of" "runs_of" qH f fd):FnOk P w K mg base CX0 1 f fd ["values"] (x6 K):=by
 refine F.ok sc_runs_of (λ vs H Q E h=>?_) (λ cdv A outer s H vs Q E hr h=>?_)
 ·obtain ⟨p,xs,rfl,_⟩:=h;rfl
 ·obtain ⟨p,xs,rfl,hS,hl,q⟩:=h;refine ⟨_,(ao (aI (i:=1) sc_runs_of.nd rfl (Or.inl rfl) (bD ae))
  (ao (dO PassesOwn.never rfl (cH (pv 0)) (aU (i:=2) sc_runs_of.nd rfl (Or.inl rfl))
   (am (a8 (PW.pt (jB (wO K (pv 1)) (jC (aQ c6 (bj (fY K) (bj (bG K) (pv 1) (dZ d5 aq) (λ _ _=>rfl)) aq (λ _ _=>rfl)) (pv 2) (aP _))))) (am (zhw (gh (aa (pv 2) (aa (au bv (bj (fY K) (bj (bG K) (pv 1) (dZ d5 aq) (λ _ _=>rfl)) aq (λ _ _=>rfl)) aq) ae))) (zhq (pv 1) (dZ d5 aq) zi7)))
   (am (bP (bW K PySem.F.plainAttrs_list PySem.F.slot_list_append PySem.F.type_list_append f9 (pv 1) (aa (gh (aa (pv 2) (aa aq ae))) ae)))))))
  (am (aC (pv 1))))),?_⟩
  walk_at "rd"
  intro l hln;have s1:Same H (upd H l (.lst [])):=Same.new hln;have h1:(upd H l (.lst [])) l=some (.lst []):=ah;generalize upd H l (.lst [])=H1 at s1 h1;have hS1:=s1.seq hS
  walk_at "rd"
  refine ⟨iM (K:=K) (a:=p) (xs:=xs.map ov) (λ i σ H'=>∃ v:Option V,σ=[some (.ref p),some (.ref l),v]/\Same H H'/\mx H' l (b9 (xs.take i)))
   ⟨none,rfl,s1,[],h1,rfl,λ j a v k e=>by cases e⟩ (λ i σ H' hi hp=>by obtain ⟨_,_,s2,_⟩:=hp;exact s2.seq hS) ?_ ?_⟩
  ·rintro i y σ H4 hi ⟨v,rfl,s4,as,g4,ea,el⟩;have hil:i < xs.length:=by
    have:=(al_gs.mp hi).1
    rwa [aj] at this
   rw [aH,getD_at' hil] at hi;cases hi;have et:b9 (xs.take (i+1))=gi (b9 (xs.take i)) (at' xs i):=by rw [cN hil,jF]
   have hle:=jE (xs.take i);rw [bc] at hle;rw [et];generalize b9 (xs.take i)=rs at ea el hle;have hz:(as.map V.ref).length < sizeLine:=by rw [aj];exact br (by omega)
   rcases List.eq_nil_or_concat rs with rfl | ⟨r0,⟨u,k⟩,er⟩
   ·have e0:as=[]:=List.eq_nil_of_length_eq_zero ea;subst e0
    walk_at "rd"
    intro a' hT;have n1:l≠a':=λ z=>by rw [← z,g4] at hT;cases hT
    refine ⟨l,_,_,rfl,rfl,by rw [ag n1];exact g4,hz,_,rfl,qS s4 hT hln,?_⟩;exact oR (k:=1) g4 ea el hT
   ·rw [List.concat_eq_append] at er;subst er;rcases List.eq_nil_or_concat as with rfl | ⟨as0,a0,eas⟩
    ·rw [aO] at ea;cases ea
    rw [List.concat_eq_append] at eas;subst eas;have l0:as0.length=r0.length:=by
     rw [aO,aO] at ea;exact Nat.add_right_cancel ea
    have h0:H4 a0=some (.tup [ov u,.int k]):=el as0.length a0 u k (by rw [List.getElem?_append_right (Nat.le_refl _),Nat.sub_self];rfl) (by rw [l0,List.getElem?_append_right (Nat.le_refl _),Nat.sub_self];rfl);have at1:atI ((as0++[a0]).map V.ref) (-1)=some (.ref a0):=by rw [aJ];exact sX _ _
    have g4':SqL K H4 l ((as0++[a0]).map V.ref):=SqL.of g4;have h0':SqT K H4 a0 [ov u,.int k]:=SqT.of h0;have at2:atI [ov u,.int k] 0=some (ov u):=rfl;have at3:atI [ov u,.int (k:Int)] 1=some (.int k):=rfl;rw [jD];have hne:(!((as0++[a0]).map V.ref).isEmpty)=true:=by simp
    walk_at "rd"
    rw [hne];refine aE ⟨_,rfl,_,rfl,_,_,_,_,rfl,rfl,g4',at1,_,_,_,_,rfl,rfl,h0',at2,_,rfl,gC _ _,_,rfl,?_⟩;rw [ww];refine zdf (λ hc=>?_) (λ hc=>?_)
    ·have hc:u=at' xs i:=of_decide_eq_true hc;rw [if_pos hc];have i1:ixN ((as0++[a0]).map V.ref).length (-1)=some as0.length:=by
      rw [aj,aO,cn];unfold ixN;rw [if_neg (by decide),if_pos (by omega)]
      congr 1
      omega
     refine ⟨_,rfl,_,rfl,_,rfl,_,_,_,_,rfl,rfl,g4',at1,_,_,_,_,rfl,rfl,h0',at3,_,_,rfl,rfl,(show 2<=sizeLine by decide),λ a' hT=>?_⟩;have n1:l≠a':=λ z=>by rw [← z,g4] at hT;cases hT
     refine ⟨_,rfl,_,rfl,l,_,_,as0.length,rfl,rfl,by rw [ag n1];exact g4,i1,_,rfl,qS s4 hT hln,?_⟩;have e1:((as0++[a0]).map V.ref).set as0.length (.ref a')=as0.map V.ref++[.ref a']:=by
      rw [aJ,List.set_append_right _ _ (by rw [aj];exact Nat.le_refl _),aj,Nat.sub_self];rfl
     rw [e1];refine oR (k:=k+1) g4 l0 (λ j a v m x1 x2=>el j a v m ?_ ?_) hT
     ·rw [List.getElem?_append_left (al_gs.mp x1).1];exact x1
     ·rw [List.getElem?_append_left (al_gs.mp x2).1];exact x2
    ·have hc:¬ u=at' xs i:=λ z=>hc (aN z);rw [if_neg hc]
     walk_at "rd"
     intro a' hT;have n1:l≠a':=λ z=>by rw [← z,g4] at hT;cases hT
     refine ⟨l,_,_,rfl,rfl,by rw [ag n1];exact g4,hz,_,rfl,qS s4 hT hln,?_⟩;exact oR (k:=1) g4 ea el hT
  ·rintro σ H4 ⟨v,rfl,s4,R4⟩;rw [aj,bd] at R4;exact ⟨_,rfl,q l _ s4 hln R4⟩
end
theorem xb:∀ (xs:List OI) (v:OI) (k:Nat),(v,k)∈b9 xs->v∈xs/\1<=k:=by
 intro xs;generalize hn:xs.length=n;induction n generalizing xs with
 | zero=>
  intro v k h;rw [List.eq_nil_of_length_eq_zero hn] at h;cases h
 | succ n ih=>
  intro v k h;rcases List.eq_nil_or_concat xs with rfl | ⟨r,y,e⟩
  ·cases h
  rw [List.concat_eq_append] at e;subst e;have hr:r.length=n:=by
   rw [aO,cn] at hn;omega
  have ih:=ih r hr;rw [jF] at h;have old:(v,k)∈b9 r->v∈r++[y]/\1<=k:=λ z=>⟨List.mem_append_left _ (ih v k z).1,(ih v k z).2⟩
  generalize b9 r=rs at h ih old;rcases List.eq_nil_or_concat rs with rfl | ⟨r0,⟨u,m⟩,er⟩
  ·rw [zic] at h;cases al_mi.mp h;exact ⟨List.mem_append_right _ (List.mem_singleton_self _),Nat.le_refl _⟩
  ·rw [List.concat_eq_append] at er;subst er;rw [jD] at h
   split at h
   ·rcases al_mp.mp h with h | h
    ·exact old (List.mem_append_left _ h)
    ·cases al_mi.mp h;exact ⟨List.mem_append_right _ (List.mem_singleton_self _),Nat.le_add_left _ _⟩
   ·rcases al_mp.mp h with h | h
    ·exact old h
    ·cases al_mi.mp h;exact ⟨List.mem_append_right _ (List.mem_singleton_self _),Nat.le_refl _⟩
theorem zib(rs:List (OI × Nat))(v:OI):gi rs v≠[]:=by
 rcases List.eq_nil_or_concat rs with rfl | ⟨r,⟨u,k⟩,rfl⟩
 ·intro z;cases z
 ·rw [List.concat_eq_append,jD]
  split <;> simp
theorem xc(h:0 < xs.length):0 < (b9 xs).length:=by
 rcases List.eq_nil_or_concat xs with rfl | ⟨r,y,e⟩
 ·cases h
 ·rw [e,List.concat_eq_append,jF];exact List.length_pos_iff.mpr (zib _ _)
section
local macro_rules | `(tactic| walk_at "rd")=>`(tactic| (repeat (first | (apply Exists.intro) | (apply And.intro;(first | exact rfl | assumption | exact Or.inl (by assumption) | exact SqL.of (by assumption) | exact Or.inl (SqL.of (by assumption)) | exact ⟨_,by assumption⟩ | exact ⟨_,SqL.of (by assumption)⟩ | exact ⟨_,SqT.of (by assumption)⟩ | exact Or.inl ⟨rfl,_,SqL.of (by assumption)⟩ | omega | exact ⟨by decide,by decide⟩ | exact Or.inl ⟨by decide,by decide⟩ | exact Or.inr ⟨by decide,by decide⟩ | (show (0:Int) < _;omega) | exact bf rfl | exact gC _ _)))))
noncomputable def c5(q:OI × Nat):Str:=bX q.1++bR (q.2 - 1) 8
noncomputable def ij(xs:List OI):Str:=bR ((b9 xs).length - 1) 8++bi ((b9 xs).map c5)
theorem ou(q:OI × Nat):(c5 q).length=32:=by
 unfold c5;rw [cM,cc];have:(bX q.1).length=24:=cc _ _;omega
noncomputable def x5(K:W.Frag):Sp:=λ vs H Q _=>∃ (p:Addr) (xs:List OI),vs=[.ref p]/\SqL K H p (xs.map ov)/\0 < xs.length/\xs.length<=1000/\xs.all okV=true/\∀ H',Same H H'->Q (.str (ij xs)) H'
theorem vU:(["value", "times"]:List Str).Nodup:=by decide +kernel
theorem sc_runs_bits:aB ["values", "runs", "written"] ["values"] (ax qG):=by walk_at "sc"
theorem zgM(T:Txt K mg t)(md:Cal P w K mg base CX0 1 "runs_of" ["values"] (x6 K))(eN:Cal P w K mg base CX0 3 "value_bits" ["value"] jO)(cO:Cal P w K mg base CX0 1 "in_bits" ["number", "width"] i4)(F:Fun K "runs_bits" "runs_bits" qG f fd):
  FnOk P w K mg base CX0 4 f fd ["values"] (x5 K):=by
 refine F.ok sc_runs_bits (λ vs H Q E h=>?_) (λ cdv A outer s H vs Q E hr h=>?_)
 ·obtain ⟨p,xs,rfl,_⟩:=h;rfl
 ·obtain ⟨p,xs,rfl,hS,h0,hl,hok,q⟩:=h;refine ⟨_,(ao (aI (i:=1) sc_runs_bits.nd rfl (Or.inl rfl) (md.pe hr az (aa (pv 0) ae)))
  (ao (iZ (i:=2) sc_runs_bits.nd rfl (Or.inl rfl) (N:=["value", "times"]) (fr:=[none,none]) ⟨rfl,rfl,rfl,rfl,rfl,rfl⟩ rfl (cH (pv 1))
    (λ C fp s H=>⟨gE K (n:=2) rfl (dC (aU (i:=0) vU rfl (Or.inl rfl)) (dC (aU (i:=1) vU rfl (Or.inl rfl)) gF)),bZ,(au gf (eN.pe hr az (aa (pv 0) ae)) (cO.pe hr az (aa (au cF (pv 1) aq) (aa (bo T.nA) ae))))⟩))
  (am (aC (au gf (cO.pe hr az (aa (au cF (aR (cJ K) (by rfl) T.bH PyProof.Rows.Boot.«len» (aa (pv 1) ae)) aq) (aa (bo T.ny) ae))) (bW K PySem.F.plainAttrs_str PySem.F.slot_str_join PySem.F.type_str_join (iT K) aD (aa (pv 2) ae))))))),?_⟩
  refine ⟨_,rfl,p,xs,rfl,hS,hl,λ l H1 s1 hln R1=>?_⟩;have hfacts:=xb xs;have hpos:=xc h0;have hle:=jE xs;obtain ⟨as,g1,ea,el⟩:=R1;have q':∀ H',Same H H'->Q (.str (bR ((b9 xs).length - 1) 8++bi ((b9 xs).map c5))) H':=q;generalize b9 xs=rs at hfacts hpos hle ea el q';have g1':SqL K H1 l (as.map V.ref):=SqL.of g1
  walk_at "rd"
  have el1:(as.map V.ref).length=rs.length:=by rw [aj];exact ea
  have hl1:(as.map V.ref).length<=1000:=by omega
  refine ⟨de (xs:=as.map V.ref) (λ i acc H'=>Same H1 H'/\acc=((rs.take i).map c5).map V.str) ⟨Same.refl _,rfl⟩ ?_ (Nat.le_of_lt (br hl1)) ?_ ?_⟩
  ·rintro i acc H2 hi ⟨s2,rfl⟩;refine ⟨s2.seq g1',?_⟩;rw [aj,aj,bc];omega
  ·rintro i x acc H2 hx hlt ⟨s2,rfl⟩;have hia:i < as.length:=by rwa [aj] at hlt
   have hir:i < rs.length:=by omega
   have ex:rs[i]?=some rs[i]:=aA hir;have exa:as[i]?=some as[i]:=aA hia;rw [aH,exa] at hx;cases hx;obtain ⟨f1,f2⟩:=hfacts rs[i].1 rs[i].2 (List.getElem_mem hir);have tp:=s2 _ _ (el i as[i] rs[i].1 rs[i].2 exa ex);have ek:((rs[i].2:Int) - 1)=((rs[i].2 - 1:Nat):Int):=by omega
   have tk:rs.take (i+1)=rs.take i++[rs[i]]:=by rw [List.take_add_one,ex];rfl
   refine ⟨as[i],_,rfl,SqT.of tp,rfl,_,_,rfl,_,_,rfl,rfl,(Wk.set rfl).trans (Wk.set rfl),tT ?_⟩;refine ⟨_,rfl,rs[i].1,rfl,List.all_eq_true.mp hok _ f1,λ H3 s3=>?_⟩;refine ⟨_,rfl,_,_,rfl,rfl,rs[i].2 - 1,8,?_,by decide,λ H4 s4=>?_⟩
   ·show [V.int ((rs[i].2:Int) - 1),V.int 8]=_;rw [ek];rfl
   refine ⟨_,_,rfl,rfl,?_,cw hlt ⟨(s2.trans s3).trans s4,?_⟩⟩
   ·have a1:(bX rs[i].1).length=24:=cc _ _;have a2:(bR (rs[i].2 - 1) 8).length=8:=cc _ _;have a3:=il;omega
   ·rw [tk,aJ,aJ];rfl
  ·rintro acc H2 ⟨s2,rfl⟩ l2 hl2;rw [el1,bd];have s3:Same H1 (upd H2 l2 (.lst ((rs.map c5).map V.str))):=aM s2 hl2;have h3:(upd H2 l2 (.lst ((rs.map c5).map V.str))) l2=some (.lst ((rs.map c5).map V.str)):=ah;generalize upd H2 l2 (.lst ((rs.map c5).map V.str))=H3 at s3 h3;have g3:=s3.seq g1';have ek:((as.map V.ref).length:Int) - 1=((rs.length - 1:Nat):Int):=by rw [el1];omega
   have sz:((rs.map c5).map (·.length)).sum=32 * rs.length:=gJ λ x _=>ou x;refine ⟨_,rfl,l,_,rfl,Or.inl g3,_,_,rfl,rfl,rs.length - 1,8,?_,by decide,λ H4 s4=>?_⟩
   ·show [V.int (((as.map V.ref).length:Int) - 1),V.int 8]=_;rw [ek];rfl
   refine ⟨rfl,_,rfl, "", l2,rs.map c5,rfl,rfl,SqL.of (s4 _ _ h3),?_,?_⟩
   ·rw [sz];show _+_ * 0<=16777216;omega
   ·rw [iO];refine ⟨_,_,rfl,rfl,?_,q' _ ((s1.trans s3).trans s4)⟩;have a2:(bR (rs.length - 1) 8).length=8:=cc _ _;have a3:=il;rw [a2,fz,sz];omega
end
noncomputable def bkj:Nat->List OI->List (Key × V)
 | _,[]=>[]
 | n,w::r=>(Sum.inl w,.int (n:Nat))::bkj (n+1) r
theorem tN(v:OI):∀ (ws:List OI) (n:Nat),bkj n (ws++[v])=bkj n ws++[(Sum.inl v,.int ((n+ws.length:Nat):Int))]
 | [],n=>rfl
 | w::r,n=>by
  show (Sum.inl w,V.int (n:Nat))::bkj (n+1) (r++[v])=_;rw [tN v r (n+1)];show _=(Sum.inl w,V.int (n:Nat))::(bkj (n+1) r++_);rw [List.length_cons,show n+1+r.length=n+(r.length+1) by omega]
theorem j9:∀ (ws:List OI) (n:Nat),(bkj n ws).length=ws.length
 | [],_=>rfl
 | _::r,n=>congrArg Nat.succ (j9 r (n+1))
theorem tL:∀ (ws:List OI) (n:Nat),(bkj n ws).map (λ kv=>kV kv.1)=ws.map ov
 | [],_=>rfl
 | w::r,n=>by
  show kV (Sum.inl w)::(bkj (n+1) r).map (λ kv=>kV kv.1)=ov w::r.map ov;rw [tL r (n+1)];cases w <;> rfl
theorem tM{v:OI}:∀ {ws:List OI} (n:Nat),v∉ws->ba (bkj n ws) (Sum.inl v:Key)=none
 | [],_,_=>rfl
 | w::r,n,h=>by
  show ba ((Sum.inl w,V.int (n:Nat))::bkj (n+1) r) _=none;rw [fL (λ e=>h (by cases e;exact bB ..))];exact tM (n+1) λ z=>h (bp _ z)
theorem mU{v:OI}:∀ {ws:List OI} (n:Nat),v∈ws->ba (bkj n ws) (Sum.inl v:Key)=some (.int ((n+ws.idxOf v:Nat):Int))
 | [],_,h=>nomatch h
 | w::r,n,h=>by
  show ba ((Sum.inl w,V.int (n:Nat))::bkj (n+1) r) _=_;by_cases e:w=v
  ·subst e;rw [iu rfl,List.idxOf_cons_self];rfl
  ·rw [fL (λ z=>e (by cases z;rfl)),mU (n+1) ((al_mc.mp h).resolve_left λ z=>e z.symm),List.idxOf_cons,show (w == v)=false by simpa using e,show n+1+r.idxOf v=n+(r.idxOf v+1) by omega];rfl
theorem vj(o:OI):kV (Sum.inl o)=ov o:=by cases o <;> rfl
theorem lj(s4:Same H H4)(hd:H d=none):Same H (upd H4 d o):=λ b z e=>by
 rw [ag (aF e hd)];exact s4 b z e
theorem kb(xs:List OI):∀ n,n<=xs.length->(av (xs.take n)).book.length<=n
 | 0,_=>Nat.le_refl _
 | n+1,h=>by
  have ih:=kb xs n (by omega);rw [gp h];show (if at' xs n∈(av (xs.take n)).book then (av (xs.take n)).book else (av (xs.take n)).book++[at' xs n]).length<=n+1
  split
  ·omega
  ·rw [aO,cn];omega
noncomputable def fh(ws:List OI)(v:OI):Str:=bR (ws.idxOf v) (aL (ws.length - 1))
noncomputable def gP(xs:List OI):Str:=bR ((av xs).book.length - 1) 6++dD (av xs).book++bi (xs.map (fh (av xs).book))
noncomputable def xA(K:W.Frag):Sp:=λ vs H Q _=>∃ (p:Addr) (xs:List OI),vs=[.ref p]/\SqL K H p (xs.map ov)/\0 < xs.length/\xs.length<=1000/\xs.all okV=true/\∀ H',Same H H'->Q (.str (gP xs)) H'
theorem ze2:(["value", "width", "book"]:List Str).Nodup:=by decide +kernel
theorem sc_book_bits:aB ["values", "book", "value", "width", "numbers"] ["values"] (ax pP):=by walk_at "sc"
theorem zfW(T:Txt K mg t)(eK:Cal P w K mg base CX0 1 "needed" ["number"] io)(cO:Cal P w K mg base CX0 1 "in_bits" ["number", "width"] i4)(jW:Cal P w K mg base CX0 4 "plain_bits" ["values"] (rH K))(F:Fun K "book_bits" "book_bits" pP f fd):
  FnOk P w K mg base CX0 5 f fd ["values"] (xA K):=by
 refine F.ok sc_book_bits (λ vs H Q E h=>?_) (λ cdv A outer s H vs Q E hr h=>?_)
 ·obtain ⟨p,xs,rfl,_⟩:=h;rfl
 ·obtain ⟨p,xs,rfl,hS,h0,hl,hok,q⟩:=h;have hu:=jo hr;refine ⟨_,(ao (aI (i:=1) sc_book_bits.nd rfl (Or.inr rfl) jx)
  (ao (dO PassesOwn.never rfl (cH (pv 0)) (aU (i:=2) sc_book_bits.nd rfl (Or.inl rfl))
   (am (bP (bW K PySem.F.plainAttrs_dict PySem.F.slot_dict_setdefault PySem.F.type_dict_setdefault vM (pv 1) (aa (pv 2) (aa (aR jh (by rfl) T.bH PyProof.Rows.Boot.«len» (aa (pv 1) ae)) ae))))))
  (ao (aI (i:=3) sc_book_bits.nd rfl (Or.inr rfl) (eK.pe hr az (aa (au cF (aR jh (by rfl) T.bH PyProof.Rows.Boot.«len» (aa (pv 1) ae)) aq) ae)))
  (ao (iZ (i:=4) sc_book_bits.nd rfl (Or.inl rfl) (N:=["value", "width", "book"]) (fr:=[none,some 3,some 1]) ⟨rfl,rfl,rfl,rfl,rfl,rfl⟩ rfl (cH (pv 0))
    (λ C fp s H=>⟨aU (i:=0) ze2 rfl (Or.inl rfl),bZ,(cO.pe hr az (aa (oE hu (pv 2) (pv 0) (λ _ _=>rfl)) (aa (pv 1) ae)))⟩))
  (am (aC (au gf (au gf (cO.pe hr az (aa (au cF (aR jh (by rfl) T.bH PyProof.Rows.Boot.«len» (aa (pv 1) ae)) aq) (aa (bo T.nu) ae))) (jW.pe hr az (aa (iV (tY rfl) (by rfl) T.ju PyProof.Rows.Boot.«list» (aa (pv 1) ae)) ae))) (bW K PySem.F.plainAttrs_str PySem.F.slot_str_join PySem.F.type_str_join (iT K) aD (aa (pv 4) ae))))))))),?_⟩
  intro d hd;have s1:Same H (upd H d (.dK [])):=Same.new hd;have h1:(upd H d (.dK [])) d=some (.dK (bkj 0 [])):=ah;generalize upd H d (.dK [])=H1 at s1 h1;have hS1:=s1.seq hS;refine ⟨_,rfl,p,rfl,⟨_,hS1⟩,⟨iM (K:=K) (a:=p) (xs:=xs.map ov) (λ i σ H'=>∃ v:Option V,σ=[some (.ref p),some (.ref d),v,none,none]/\Same H H'/\H' d=some (.dK (bkj 0 (av (xs.take i)).book)))
   ⟨none,rfl,s1,h1⟩ (λ i σ H' hi hp=>by obtain ⟨_,_,s2,_⟩:=hp;exact s2.seq hS) ?_ ?_⟩⟩
  ·rintro i y σ H4 hi ⟨v,rfl,s4,h4⟩;have hil:i < xs.length:=by
    have:=(al_gs.mp hi).1
    rwa [aj] at this
   rw [aH,getD_at' hil] at hi;cases hi;have et:(av (xs.take (i+1))).book=if at' xs i∈(av (xs.take i)).book then (av (xs.take i)).book else (av (xs.take i)).book++[at' xs i]:=by
    rw [gp hil];rfl
   have hle:=kb xs i (by omega);rw [et];generalize (av (xs.take i)).book=ws at h4 hle;refine ⟨_,rfl,Or.inr (Or.inr (Or.inl ⟨rfl,Or.inl ⟨_,h4⟩⟩)),_,rfl,_,rfl,d,_,rfl,h4,d,_,Sum.inl (at' xs i),_,rfl,by rw [vj],h4,λ z hz=>?_,λ hz=>⟨?_,?_⟩⟩
   ·have hm:at' xs i∈ws:=by
     by_cases hm:at' xs i∈ws
     ·exact hm
     ·rw [tM 0 hm] at hz;cases hz
    rw [if_pos hm];exact ⟨_,rfl,s4,h4⟩
   ·rw [j9];exact br (by omega)
   ·have hm:at' xs i∉ws:=λ hm=>by rw [mU 0 hm] at hz;cases hz
    rw [if_neg hm];refine ⟨_,rfl,lj s4 hd,?_⟩;rw [ah,k9 _ hz,tN,j9,Nat.zero_add]
  ·rintro σ H4 ⟨v,rfl,s4,h4⟩;rw [aj,bd] at h4;have hle:=kb xs xs.length (Nat.le_refl _);have hmem:=nX (xs:=xs) xs.length;rw [bd] at hle hmem;have q':∀ H',Same H H'->Q (.str (bR ((av xs).book.length - 1) 6++dD (av xs).book++bi (xs.map (fh (av xs).book)))) H':=q;generalize (av xs).book=ws at h4 hle hmem q';have hpos:0 < ws.length:=List.length_pos_of_mem ((hmem _ (Nat.le_refl _)).mpr (aS (getD_at' h0)));have el:((bkj 0 ws).length:Int) - 1=((ws.length - 1:Nat):Int):=by rw [j9];omega
   have hw:aL (ws.length - 1)<=10:=hV (by omega);have hS4:=s4.seq hS;have ew:aL (((bkj 0 ws).length:Int) - 1).toNat=aL (ws.length - 1):=by rw [el,Int.toNat_natCast]
   refine ⟨_,rfl,d,_,rfl,h4,_,_,rfl,rfl,_,rfl,by omega,?_⟩;rw [ew];refine ⟨_,rfl,p,rfl,⟨_,hS4⟩,⟨de (xs:=xs.map ov) (λ i acc H'=>Same H4 H'/\acc=((xs.take i).map (fh ws)).map V.str) ⟨Same.refl _,rfl⟩ ?_ ?_ ?_ ?_⟩⟩
   ·rintro i acc H5 hi ⟨s5,rfl⟩;refine ⟨s5.seq hS4,?_⟩;rw [aj,aj,bc];omega
   ·rw [aj];exact Nat.le_of_lt (br hl)
   ·rintro i x acc H5 hx hlt ⟨s5,rfl⟩;have hlt':i < xs.length:=by rwa [aj] at hlt
    rw [aH,getD_at' hlt'] at hx;cases hx;have hm:at' xs i∈ws:=(hmem _ (Nat.le_refl _)).mpr (aS (getD_at' hlt'));have h5:=s5 _ _ h4;have dg:DGet H5 d (ov (at' xs i)) (some (.int ((ws.idxOf (at' xs i):Nat):Int))):=.inl ⟨_,Sum.inl (at' xs i),.inl h5,(vj _).symm,by rw [mU 0 hm,Nat.zero_add]⟩;refine ⟨Wk.set rfl,tT ?_⟩;refine ⟨_,rfl,_,rfl,d,_,rfl,dg,_,rfl,ws.idxOf (at' xs i),aL (ws.length - 1),rfl,by omega,λ H6 s6=>cw hlt ⟨s5.trans s6,?_⟩⟩;rw [cN hlt',aJ,aJ];rfl
   ·rintro acc H5 ⟨s5,rfl⟩ l5 hl5;rw [aj,bd];have s6:Same H4 (upd H5 l5 (.lst ((xs.map (fh ws)).map V.str))):=aM s5 hl5;have h6:(upd H5 l5 (.lst ((xs.map (fh ws)).map V.str))) l5=some (.lst ((xs.map (fh ws)).map V.str)):=ah;generalize upd H5 l5 (.lst ((xs.map (fh ws)).map V.str))=H6 at s6 h6;have d6:=s6 _ _ h4;have sz:((xs.map (fh ws)).map (·.length)).sum=aL (ws.length - 1) * xs.length:=gJ λ x _=>cc _ _;have szl:aL (ws.length - 1) * xs.length<=10 * 1000:=Nat.mul_le_mul hw hl;have okw:ws.all okV=true:=List.all_eq_true.mpr λ v hv=>List.all_eq_true.mp hok v ((hmem v (Nat.le_refl _)).mp hv);refine ⟨_,rfl,d,_,rfl,d6,_,_,rfl,rfl,ws.length - 1,6,?_,by decide,λ H7 s7=>?_⟩
    ·show [V.int (((bkj 0 ws).length:Int) - 1),V.int 6]=_;rw [el];rfl
    refine ⟨_,rfl,d,_,rfl,s7 _ _ d6,λ l8 hl8=>?_⟩;rw [tL];refine ⟨l8,ws,rfl,SqL.of ah,by omega,okw,λ H9 s9=>?_⟩;have s79:Same H6 H9:=(aM s7 hl8).trans s9;have a1:(bR (ws.length - 1) 6).length=6:=cc _ _;have a2:(dD ws).length=24 * ws.length:=by unfold dD;rw [fz,oH]
    have a3:=il;refine ⟨_,_,rfl,rfl,by omega,?_⟩;refine ⟨rfl,_,rfl, "", l5,xs.map (fh ws),rfl,rfl,SqL.of (s79 _ _ h6),?_,?_⟩
    ·rw [sz];show _+_ * 0<=16777216;omega
    ·rw [iO];refine ⟨_,_,rfl,rfl,?_,q' _ ((s4.trans s6).trans s79)⟩;rw [cM,a1,a2,fz,sz];omega
noncomputable def cV:Nat->List OI->Str
 | 0=>dD
 | 1=>ij
 | 2=>gP
 | 3=>gs
 | _=>gH
noncomputable def c7(j:Nat)(xs:List OI):Str:=bR j 3++bR (xs.length - 1) 8++cV j xs
theorem rm4(h:rm xs 4≠.none): .none∉xs:=λ c=>h (by
 show gL (if (av xs).none=true then .none else _)=_;rw [if_pos ((zh5 xs).mpr c)];rfl)
theorem fe(h:okB xs=true):xs.all okV=true/\xs.length<=100:=by
 simp only [okB,Bool.and_eq_true,decide_eq_true_eq] at h;exact ⟨h.2,h.1.2⟩
theorem kY(xs:List OI):(dD xs).length=24 * xs.length:=by unfold dD;rw [fz,oH]
theorem xa(xs:List OI):(ij xs).length=8+32 * (b9 xs).length:=by
 unfold ij;rw [cM,cc,fz,gJ (k:=32) λ x _=>ou x]
theorem tU(xs:List OI):(gP xs).length=6+24 * (av xs).book.length+aL ((av xs).book.length - 1) * xs.length:=by
 unfold gP;rw [cM,cM,cc,kY,fz,gJ (f:=fh (av xs).book) (k:=aL ((av xs).book.length - 1)) λ x _=>cc _ _]
theorem evenS_len'(ns:List Int):(dI ns).length=5+aL (bu ns).toNat * ns.length:=by
 unfold dI;rw [cM,cc,fz,gJ (k:=aL (bu ns).toNat) λ x _=>cc _ _]
theorem ir(o:OI):(bX o).length=24:=cc _ _
theorem zaH(xs:List OI):(gs xs).length=24+(5+aL (bu (xs.map (above (aZ xs)))).toNat * xs.length):=by
 unfold gs;rw [cM,ir,evenS_len',aj]
theorem zjh(xs:List OI):(gH xs).length=24+(5+aL (bu (stp xs xs.length)).toNat * (stp xs xs.length).length):=by
 unfold gH;rw [cM,ir,evenS_len']
theorem tV(xs:List OI):(av xs).book.length<=xs.length:=by
 have:=kb xs xs.length (Nat.le_refl _)
 rwa [bd] at this
theorem zji(xs:List OI):(stp xs xs.length).length<=xs.length:=by
 cases h:xs.length with
 | zero=>simp [stp]
 | succ n=>rw [gI];omega
theorem tR(hl:xs.length<=1000)(hok:xs.all okV=true)(j:Nat):(cV j xs).length<=200000:=by
 have hb:=tV xs;have hr:=jE xs
 match j with
 | 0=>show (dD xs).length<=_;rw [kY];omega
 | 1=>show (ij xs).length<=_;rw [xa];omega
 | 2=>
  show (gP xs).length<=_;have hw:aL ((av xs).book.length - 1)<=10:=hV (by omega);have:=Nat.mul_le_mul hw hl;rw [tU];omega
 | 3=>
  show (gs xs).length<=_;have:=ki (j7 hok) (by rw [aj];exact hl);unfold gs;rw [cM,ir];omega
 | j+4=>
  show (gH xs).length<=_;have:=ki (jQ hok xs.length) (Nat.le_trans (zji xs) hl);unfold gH;rw [cM,ir];omega
noncomputable def spW(K:W.Frag):Str->Sp:=λ x vs H Q _=>∃ (p:Addr) (xs:List OI) (j:Nat),vs=[.ref p]/\kindsS[j]?=some x/\SqL K H p (xs.map ov)/\0 < xs.length/\xs.length<=1000/\xs.all okV=true/\(j=4->.none∉xs)/\
 ∀ H',Same H H'->Q (.str (cV j xs)) H'
theorem zki{f1 f2 f3 f4 f5:Addr}(hm:mg "WRITERS" = some (.ref a))(hl:K.lookup a=some ⟨.type "dict", none,.dict es n,#[]⟩)(hk:W.KeysLit w.params es.toList)(n1:W.nsIn K a "plain" = some (some (.ref f1)))(n2:W.nsIn K a "runs" = some (some (.ref f2)))(n3:W.nsIn K a "book" = some (some (.ref f3)))(n4:W.nsIn K a "base" = some (some (.ref f4)))(n5:W.nsIn K a "steps" = some (some (.ref f5)))(g1:mg "plain_bits" = some (.ref f1))(g2:mg "runs_bits" = some (.ref f2))(g3:mg "book_bits" = some (.ref f3))(g4:mg "base_bits" = some (.ref f4))(g5:mg "steps_bits" = some (.ref f5))(C1:Cal P w K mg base CX0 4 "plain_bits" ["values"] (rH K))(C2:Cal P w K mg base CX0 4 "runs_bits" ["values"] (x5 K))(C3:Cal P w K mg base CX0 5 "book_bits" ["values"] (xA K))(C4:Cal P w K mg base CX0 4 "base_bits" ["values"] (xw K))(C5:Cal P w K mg base CX0 4 "steps_bits" ["values"] (x8 K)):CalT P w K mg base CX0 5 "WRITERS" ["values"] kindsS (spW K):=by
 refine ⟨a,es,n,hm,hl,hk,λ y hy=>?_⟩;obtain ⟨j,hj⟩:=List.getElem?_of_mem hy;have only:∀ {i:Nat},kindsS[i]?=some y->i=j:=λ h=>eZ hU h hj;rcases uJ hj with ⟨rfl,rfl⟩ | ⟨rfl,rfl⟩ | ⟨rfl,rfl⟩ | ⟨rfl,rfl⟩ | ⟨rfl,rfl⟩
 ·obtain ⟨f,fd,G,m,k,b⟩:=C1;cases g1.symm.trans m;exact ⟨_,fd,n1,(G.mono (by decide)).imp (λ vs H Q E ⟨p,xs,i,e,hi,hS,h0,hl,hok,hn,q⟩=>by cases only hi;exact ⟨p,xs,e,hS,hl,hok,q⟩),k,b⟩
 ·obtain ⟨f,fd,G,m,k,b⟩:=C2;cases g2.symm.trans m;exact ⟨_,fd,n2,(G.mono (by decide)).imp (λ vs H Q E ⟨p,xs,i,e,hi,hS,h0,hl,hok,hn,q⟩=>by cases only hi;exact ⟨p,xs,e,hS,h0,hl,hok,q⟩),k,b⟩
 ·obtain ⟨f,fd,G,m,k,b⟩:=C3;cases g3.symm.trans m;exact ⟨_,fd,n3,G.imp (λ vs H Q E ⟨p,xs,i,e,hi,hS,h0,hl,hok,hn,q⟩=>by cases only hi;exact ⟨p,xs,e,hS,h0,hl,hok,q⟩),k,b⟩
 ·obtain ⟨f,fd,G,m,k,b⟩:=C4;cases g4.symm.trans m;exact ⟨_,fd,n4,(G.mono (by decide)).imp (λ vs H Q E ⟨p,xs,i,e,hi,hS,h0,hl,hok,hn,q⟩=>by cases only hi;exact ⟨p,xs,e,hS,hl,hok,q⟩),k,b⟩
 ·obtain ⟨f,fd,G,m,k,b⟩:=C5;cases g5.symm.trans m;exact ⟨_,fd,n5,(G.mono (by decide)).imp (λ vs H Q E ⟨p,xs,i,e,hi,hS,h0,hl,hok,hn,q⟩=>by cases only hi;exact ⟨p,xs,e,hS,h0,hl,hok,hn rfl,q⟩),k,b⟩
noncomputable def rF(K:W.Frag)(t:Ad):Sp:=λ vs H Q E=>∃ (p:Addr) (xs:List OI) (x:Str),vs=[.str x,.ref p]/\SqL K H p (xs.map ov)/\xs.length<=1000/\
 (okB xs=false->∀ H',Same H H'->E (.ref t.cQ) none H')/\(okB xs=true->x∉kindsS->∀ H',Same H H'->E (.ref t.dX) none H')/\
 (okB xs=true->∀ j,kindsS[j]?=some x->rm xs j = .none->∀ H',Same H H'->E (.ref t.dX) none H')/\
 (okB xs=true->∀ j,kindsS[j]?=some x->rm xs j≠.none->∀ H',Same H H'->Q (.str (c7 j xs)) H')
theorem zgw(T:Txt K mg t)(l9:Cal P w K mg base (CXr P w) 6 "room" ["kind", "values"] (xY K t))(cO:Cal P w K mg base CX0 1 "in_bits" ["number", "width"] i4)(lK:CalT P w K mg base CX0 5 "WRITERS" ["values"] kindsS (spW K))(F:Fun K "packed" "packed" qu f fd):FnOk P w K mg base (CXr P w) 7 f fd ["kind", "values"] (rF K t):=by
 refine F.okX sc_packed (λ vs H Q E h=>?_) (λ cdv A outer s H vs Q E hr h=>?_)
 ·obtain ⟨p,xs,x,rfl,_⟩:=h;rfl
 ·obtain ⟨p,xs,x,rfl,hS,hl,k1,k2,k3,k4⟩:=h;have el:(xs.map ov).length=xs.length:=aj _;refine ⟨_,(ao (a8 (aQ dM (l9.pe hr dj (aa (pv 0) (aa (pv 1) ae))) bx (aP _)) (am (dP dR T.yL rfl (by rfl) T.nn (aa aD ae)))
   bq)
  (ao (aI (i:=2) sc_packed.nd rfl (Or.inl rfl) (au gf (cO.pe hr az (aa (bW K PySem.F.plainAttrs_tuple PySem.F.slot_tuple_index PySem.F.type_tuple_index (zeJ K) (dN T.iN) (aa (pv 0) ae)) (aa (bo T.nv) ae))) (cO.pe hr az (aa (au cF (aR (cJ K) (by rfl) T.bH PyProof.Rows.Boot.«len» (aa (pv 1) ae)) aq) (aa (bo T.nw) ae)))))
  (am (aC (au gf (pv 2) (lK.pe hr az (pv 0) (aa (pv 1) ae))))))),?_⟩
  refine ⟨_,rfl,_,rfl,p,xs,x,rfl,hS,hl,k1,k2,λ okb j hj H1 s1=>?_⟩;have h0:=gd okb;obtain ⟨hok,h100⟩:=fe okb;obtain ⟨q1,q2⟩:=vm hj;have k3:=k3 okb j hj;have k4:=k4 okb j hj;have hr4:j=4->rm xs j≠.none->.none∉xs:=λ e h=>by subst e;exact rm4 h
  refine ⟨rfl,_,rfl,?_⟩;show (if decide (ov (rm xs j) = .non)=true then _ else _);cases e:rm xs j with
  | none=>exact aE ⟨by show 1<=sizeLine;decide,k3 e H1 s1⟩
  | some M=>
   have hne:rm xs j≠.none:=by rw [e];intro z;cases z
   refine ay ?_;have ej:((xs.length:Int) - 1)=((xs.length - 1:Nat):Int):=by omega
   refine ⟨.inr (.inl ⟨rfl,T.vk⟩),_,rfl,t.eS,kindsV,.str x,j,rfl,rfl,T.iR _,rfl,rfl,q1,q2,?_⟩;refine ⟨j,3,rfl,by decide,λ H2 s2=>?_⟩;refine ⟨_,rfl,p,_,rfl,.inl ((s1.trans s2).seq hS),_,_,rfl,rfl,xs.length - 1,8,?_,by decide,λ H3 s3=>?_⟩
   ·show [V.int (((xs.map ov).length:Int) - 1),V.int 8]=_;rw [el,ej];rfl
   have a1:(bR j 3).length=3:=cc _ _;have a2:(bR (xs.length - 1) 8).length=8:=cc _ _;have a3:=il;refine ⟨_,_,rfl,rfl,by omega,?_⟩;refine ⟨_,rfl,_,rfl,x,rfl,aS hj,_,rfl,p,xs,j,rfl,hj,((s1.trans s2).trans s3).seq hS,h0,hl,hok,λ z=>hr4 z hne,λ H4 s4=>?_⟩;refine ⟨_,_,rfl,rfl,?_,k4 hne H4 (((s1.trans s2).trans s3).trans s4)⟩;have:=tR hl hok j;rw [cM,a1,a2];omega
theorem zjP(ns:List Int):∀ a∈0::ns,a<=bu ns:=by
 obtain ⟨m,e⟩:=nV (l:=0::ns) (by simp);have:bu ns=m:=by unfold bu;rw [e];rfl
 rw [this];exact nU e
theorem og(a:List Nat):(gb a).length=a.length:=by simp [gb]
theorem kq(a:Str)(l:List Str):bi (a::l)=a++bi l:=by
 apply i6;rw [df,eX,eX,List.map_cons,List.flatten_cons]
theorem Ris.snoc{m e:Nat}:∀ {l:List Nat} {b:Nat},Ris m b l->m < e->Ris e b (l++[e])
 | [],b,h,he=>⟨by have:b=m:=h;omega,rfl⟩
 | _::_,_,h,he=>⟨h.1,Ris.snoc h.2 he⟩
theorem m9(xs:List OI):∀ e,Ris e 0 (cW xs e):=by
 intro e;induction e using Nat.strongRecOn with
 | ind e ih=>
  by_cases h:e=0
  ·subst h;exact rfl
  ·have hl:=jq xs (e:=e) (by omega);rw [m8 xs (by omega)];exact (ih _ hl).snoc hl
noncomputable def cP(xs:List OI):Nat->List Nat->List (List OI)
 | _,[]=>[]
 | b,e::r=>(xs.drop b).take (e - b)::cP xs e r
theorem iL(xs:List OI):∀ (b:Nat) (l:List Nat),(cP xs b l).length=l.length
 | _,[]=>rfl
 | b,e::r=>congrArg Nat.succ (iL xs e r)
theorem ka(xs:List OI):∀ (b:Nat) (l:List Nat) (i:Nat),i < l.length->(cP xs b l)[i]?=some ((xs.drop ((b::l).getD i 0)).take (l.getD i 0 - (b::l).getD i 0))
 | b,e::r,0,_=>rfl
 | b,e::r,i+1,h=>by
  have:=ka xs e r i (by simpa using h);show (cP xs e r)[i]?=_;rw [this];simp [List.getD]
theorem kN(h:okC xs=true):xs.all okV=true:=by
 simp only [okC,Bool.and_eq_true] at h;exact h.2
theorem mV(hok:xs.all okV=true)(hl:xs.length<=100)(hb:b < e)(he:e<=xs.length):okB ((xs.drop b).take (e - b))=true:=by
 have ll:((xs.drop b).take (e - b)).length=e - b:=by rw [bc,List.length_drop];omega
 unfold okB;rw [ll,aN (by omega),Bool.true_and,List.all_eq_true];intro v hv;exact List.all_eq_true.mp hok v (List.mem_of_mem_drop (List.mem_of_mem_take hv))
noncomputable def fR(xs:List OI):Str:=c7 (cD xs) xs
theorem mS(xs:List OI):cD xs < 5/\rm xs (cD xs)=some (fQ xs):=by
 obtain ⟨M,h1,h2,_⟩:=tw xs;have h5:cD xs < (bK (av xs)).length:=(al_gs.mp h2).1;refine ⟨h5,?_⟩;unfold rm;rw [List.getD,h2,tt h1];rfl
theorem zaJ(xs:List OI):kindsS[cD xs]?=some (kindsS.getD (cD xs) ""):=by
 have h:cD xs < kindsS.length:=(mS xs).1;simp [List.getD,h]
noncomputable def fK(xs:List OI):Str:=bi ((cP xs 0 (cW xs xs.length)).map fR)
noncomputable def yO(H:Hp)(l:Addr)(bs:List (List OI)):Prop:=∃ as:List Addr,H l=some (.lst (as.map V.ref))/\as.length=bs.length/\∀ (j:Nat) (a:Addr) (b:List OI),as[j]?=some a->bs[j]?=some b->H a=some (.lst (b.map ov))
noncomputable def xz(K:W.Frag):Sp:=λ vs H Q _=>∃ (p e:Addr) (xs:List OI) (ens:List Nat),vs=[.ref p,.ref e]/\SqL K H p (xs.map ov)/\H e=some (.lst (gb ens))/\xs.length<=1000/\Ris xs.length 0 ens/\ens.length<=1000/\
 ∀ (l:Addr) (H':Hp),Same H H'->H l=none->yO H' l (cP xs 0 ens)->Q (.ref l) H'
theorem vS:(["begin", "end", "values"]:List Str).Nodup:=by decide +kernel
theorem ziC:aB ["values", "ends"] ["values", "ends"] (ax pO):=by walk_at "sc"
theorem zfV(T:Txt K mg t)(F:Fun K "blocks_between" "blocks_between" pO f fd):FnOk P w K mg base CX0 1 f fd ["values", "ends"] (xz K):=by
 refine F.ok ziC (λ vs H Q E h=>?_) (λ cdv A outer s H vs Q E hr h=>?_)
 ·obtain ⟨p,e,xs,ens,rfl,_⟩:=h;rfl
 ·obtain ⟨p,e,xs,ens,rfl,hS,he,hx,ris,hen,q⟩:=h;refine ⟨_,(am (aC (cL (N:=["begin", "end", "values"]) (fr:=[none,none,some 0]) ⟨rfl,rfl,rfl,rfl,rfl,rfl⟩ rfl (wE K (by rfl) T.kM (aa (au fD (bD (aa aq ae)) (pv 1)) (aa (pv 1) ae)))
    (λ C fp s H=>⟨gE K (n:=2) rfl (dC (aU (i:=0) vS rfl (Or.inl rfl)) (dC (aU (i:=1) vS rfl (Or.inl rfl)) gF)),bZ,(gg (im K) (pv 2) (eI (pv 0)) (eI (pv 1)))⟩)))),?_⟩
  refine ⟨bf rfl,λ l1 hl1=>?_⟩;have n1:e≠l1:=aF he hl1;refine ⟨_,rfl,l1,e,_,_,rfl,rfl,ah,by rw [ag n1];exact he,?_,λ l2 hl2=>?_⟩
  ·rw [og];exact Nat.le_of_lt (small1000' (show 1+ens.length<=10000 by omega))
  have s2:Same H (upd (upd H l1 (.lst [.int 0])) l2 (.lst ([.int 0]++gb ens))):=aM (Same.new hl1) hl2;have h2:(upd (upd H l1 (.lst [.int 0])) l2 (.lst ([.int 0]++gb ens))) l2=some (.lst (gb (0::ens))):=ah;generalize upd (upd H l1 (.lst [.int 0])) l2 (.lst ([.int 0]++gb ens))=H2 at s2 h2;have he2:=s2 _ _ he;refine ⟨_,rfl,l2,e,_,_,rfl,SqL.of h2,SqL.of he2,?_⟩;refine ⟨ui (xs:=gb (0::ens)) (ys:=gb ens) (λ i acc H'=>Same H2 H'/\∃ as:List Addr,acc=as.map V.ref/\as.length=i/\∀ (j:Nat) (a:Addr) (b:List OI),as[j]?=some a->(cP xs 0 ens)[j]?=some b->H' a=some (.lst (b.map ov))) ⟨Same.refl _,[],rfl,rfl,λ j a b e=>by cases e⟩
   ens.length (by rw [og,og,List.length_cons];omega) (λ i acc H' hi hp'=>⟨SqL.of (hp'.1 _ _ h2),SqL.of (hp'.1 _ _ he2),by obtain ⟨_,as,e,h,_⟩:=hp';rw [e,aj];omega⟩) (Nat.le_of_lt (br (by omega))) ?_ ?_⟩
  ·rintro i x y acc H3 T' hx' hy' hi ⟨s3,as,rfl,ha,hb⟩ hT;obtain ⟨r1,r2⟩:=ris.at i hi;have ex:x = .int (((0::ens).getD i 0:Nat):Int):=by
    have:i < (0::ens).length:=by rw [List.length_cons];omega
    rw [aH,aH,aA this] at hx';cases hx';simp only [List.getD,aA this,Option.getD_some]
   have ey:y = .int ((ens.getD i 0:Nat):Int):=by
    rw [aH,aH,aA hi] at hy';cases hy';simp only [List.getD,aA hi,Option.getD_some]
   have hg:=ka xs 0 ens i hi;generalize (0::ens).getD i 0=b at r1 ex hg;generalize ens.getD i 0=c at r1 r2 ey hg;subst ex ey;have s4:Same H2 (upd H3 T' (.tup [.int b,.int c])):=aM s3 hT;refine ⟨T',_,rfl,SqT.of ah,rfl,_,_,rfl,_,_,rfl,rfl,(Wk.set rfl).trans (Wk.set rfl),tT ?_⟩;refine ⟨_,rfl,_,rfl,_,rfl,_,rfl,_,rfl,p,_,rfl,(s2.trans s4).seq hS,λ l5 hl5=>?_⟩;rw [zbk xs (by omega) r2];have s5:=aM (o:=.lst (((xs.drop b).take (c - b)).map ov)) s4 hl5;refine cw hi ⟨s5,as++[l5],by rw [aJ];rfl,by simp [ha],λ j a z e1 e2=>?_⟩;by_cases hj:j < as.length
   ·rw [List.getElem?_append_left hj] at e1;have h6:=aM s3 hT (o:=.tup [.int b,.int c]);have h7:=hb j a z e1 e2;have h8:(upd H3 T' (.tup [.int b,.int c])) a=some (.lst (z.map ov)):=by rw [ag (aF h7 hT)];exact h7
    rw [ag (aF h8 hl5)];exact h8
   ·rw [List.getElem?_append_right (by omega)] at e1;have hji:j - as.length=0:=by
     have:=(al_gs.mp e1).1;simp at this;omega
    rw [hji] at e1;cases e1;rw [show j=i by omega,hg] at e2;cases e2;exact ah
  ·rintro acc H3 ⟨s3,as,rfl,ha,hb⟩ l hl2';refine q l _ (aM (s2.trans s3) hl2') ((s2.trans s3).free hl2') ⟨as,ah,by rw [ha,iL],λ j a b e1 e2=>?_⟩;have:=hb j a b e1 e2;rw [ag (aF this hl2')];exact this
noncomputable def jM(K:W.Frag)(t:Ad):Sp:=λ vs H Q E=>∃ (p:Addr) (xs:List OI),vs=[.ref p]/\SqL K H p (xs.map ov)/\xs.length<=1000/\
 (okC xs=true->∀ H',Same H H'->Q (.str (fK xs)) H')/\(okC xs=false->∀ H',Same H H'->E (.ref t.cQ) none H')
theorem u9{l:List Str}(h:∀ s∈l,s.length<=k):(l.map (·.length)).sum<=k * l.length:=by
 induction l with
 | nil=>exact Nat.zero_le _
 | cons a r ih=>
  rw [List.map_cons,List.sum_cons,List.length_cons,Nat.mul_succ];have:=ih λ s hs=>h s (bp _ hs);have:=h a bB;omega
theorem tu(hl:xs.length<=1000)(hok:xs.all okV=true):(fR xs).length<=200011:=by
 unfold fR c7;rw [cM,cM,cc,cc];have:=tR hl hok (cD xs);omega
theorem zfi:(["block"]:List Str).Nodup:=by decide +kernel
theorem zi1:aB ["values"] ["values"] (ax qL):=by walk_at "sc"
theorem zgV(T:Txt K mg t)(lO:Cal P w K mg base CX0 1 "blocks_between" ["values", "ends"] (xz K))(lR:Cal P w K mg base (CXr P w) 8 "cuts" ["values"] (xE K t))(iD:Cal P w K mg base (CXr P w) 7 "packed" ["kind", "values"] (rF K t))(lM:Cal P w K mg base (CXr P w) 6 "best_kind" ["values"] (xx K t))(F:Fun K "tight" "tight" qL f fd):
  FnOk P w K mg base (CXr P w) 9 f fd ["values"] (jM K t):=by
 refine F.okX zi1 (λ vs H Q E h=>?_) (λ cdv A outer s H vs Q E hr h=>?_)
 ·obtain ⟨p,xs,rfl,_⟩:=h;rfl
 ·obtain ⟨p,xs,rfl,hS,hl,k1,k2⟩:=h;refine ⟨_,(am (aC (bW K PySem.F.plainAttrs_str PySem.F.slot_str_join PySem.F.type_str_join (iT K) aD (aa (cL (N:=["block"]) (fr:=[none]) ⟨rfl,rfl,rfl,rfl,rfl,rfl⟩ rfl (cH (lO.pe hr az (aa (pv 0) (aa (lR.pe hr dj (aa (pv 0) ae)) ae))))
    (λ C fp s H=>⟨aU (i:=0) zfi rfl (Or.inl rfl),bZ,(iD.pe hr cx (aa (lM.pe hr cx (aa (pv 0) ae)) (aa (pv 0) ae)))⟩)) ae)))),?_⟩
  refine ⟨rfl,_,rfl,_,rfl,p,xs,rfl,hS,hl,λ ok c H1 s1 hc h1=>?_,k2⟩;have l64:=ge ok;have hok:=kN ok;have ris:=m9 xs xs.length;have clen:=m7 xs xs.length;have k1:∀ H',Same H H'->Q (.str (bi ((cP xs 0 (cW xs xs.length)).map fR))) H':=k1 ok;generalize cW xs xs.length=ens at h1 ris clen k1;refine ⟨p,c,xs,ens,rfl,s1.seq hS,h1,hl,ris,by omega,λ l H2 s2 hln B2=>?_⟩;have bl:=iL xs 0 ens;have bg:=ka xs 0 ens;obtain ⟨as,g2,ea,eb⟩:=B2;have la:(as.map V.ref).length=ens.length:=by rw [aj];omega
  refine ⟨l,rfl,⟨_,SqL.of g2⟩,⟨de (xs:=as.map V.ref) (λ i acc H'=>Same H2 H'/\acc=(((cP xs 0 ens).take i).map fR).map V.str) ⟨Same.refl _,rfl⟩ ?_ (Nat.le_of_lt (br (by omega))) ?_ ?_⟩⟩
  ·rintro i acc H3 hi ⟨s3,rfl⟩;refine ⟨SqL.of (s3 _ _ g2),?_⟩;rw [aj,aj,bc];omega
  ·rintro i y acc H3 hx hlt ⟨s3,rfl⟩;have hia:i < as.length:=by rwa [aj] at hlt
   have hie:i < ens.length:=by omega
   rw [aH,aA hia] at hx;cases hx;obtain ⟨r1,r2⟩:=ris.at i hie;have hb:=bg i hie;have hbk:=eb i as[i] _ (aA hia) hb;have okb:=mV hok (by omega) r1 r2;generalize (xs.drop ((0::ens).getD i 0)).take (ens.getD i 0 - (0::ens).getD i 0)=blk at hb hbk okb;obtain ⟨hbo,hb100⟩:=fe okb;have nok:∀ {Z:Prop},okB blk=false->Z:=λ h=>by rw [okb] at h;cases h
   obtain ⟨b5,brm⟩:=mS blk;have hkd:=zaJ blk;refine ⟨Wk.set rfl,tT ⟨_,rfl,as[i],blk,rfl,SqL.of (s3 _ _ hbk),by omega,nok,λ _ H4 s4=>?_⟩⟩;refine ⟨_,rfl,as[i],blk,_,rfl,SqL.of ((s3.trans s4) _ _ hbk),by omega,nok,λ _ hk=>absurd (aS hkd) hk,λ _ j hj hn=>?_,λ _ j hj hn H5 s5=>?_⟩
   ·have:j=cD blk:=eZ hU hj hkd;subst this;rw [brm] at hn;cases hn
   ·have:j=cD blk:=eZ hU hj hkd;subst this;refine cw hlt ⟨(s3.trans s4).trans s5,?_⟩;rw [List.take_add_one,hb];show _=((((cP xs 0 ens).take i)++[blk]).map fR).map V.str;rw [aJ,aJ];rfl
  ·rintro acc H3 ⟨s3,rfl⟩ l3 hl3;rw [la,← bl,bd];refine ⟨"", l3,(cP xs 0 ens).map fR,rfl,rfl,SqL.of ah,?_,?_⟩
   ·have h64:=u9 (l:=(cP xs 0 ens).map fR) (k:=200011) λ s hs=>by
     obtain ⟨b,hb,rfl⟩:=List.mem_map.mp hs;obtain ⟨i,hi⟩:=List.getElem?_of_mem hb;have hie:i < ens.length:=by
      have:=(al_gs.mp hi).1;omega
     rw [bg i hie] at hi;cases hi;obtain ⟨r1,r2⟩:=ris.at i hie;obtain ⟨x1,x2⟩:=fe (mV hok (by omega) r1 r2);exact tu (by omega) x1
    rw [aj,bl] at h64;have:200011 * ens.length<=200011 * 64:=Nat.mul_le_mul_left _ (by omega);show _+_ * 0<=16777216;omega
   ·rw [iO];exact k1 _ (aM ((s1.trans s2).trans s3) hl3)
noncomputable def At(X:List Nat)(n:Nat)(L:List Nat):Prop:=∃ pre post,X=pre++(L++post)/\pre.length=n
theorem At.left(h:At X n (A++B)):At X n A:=by
 obtain ⟨pre,post,e,hl⟩:=h;exact ⟨pre,B++post,by rw [e,List.append_assoc],hl⟩
theorem At.right(h:At X n (A++B)):At X (n+A.length) B:=by
 obtain ⟨pre,post,e,hl⟩:=h;exact ⟨pre++A,post,by rw [e,List.append_assoc,List.append_assoc],by rw [aO,hl]⟩
theorem At.le{L:List Nat}(h:At X n L):n+L.length<=X.length:=by
 obtain ⟨pre,post,e,hl⟩:=h;rw [e,aO,aO];omega
theorem At.cut{L:List Nat}(h:At X n L):(X.drop n).take L.length=L:=by
 obtain ⟨pre,post,e,hl⟩:=h;subst hl;rw [e,List.drop_left,List.take_left]
theorem tH(n:Nat):∀ w,bw (bQ n w)
 | 0=>λ c h=>by cases h
 | w+1=>λ c h=>by
  rcases al_mc.mp (show c∈eu n w::bQ n w from h) with e | h
  ·rw [e];unfold eu;split
   ·exact Or.inr rfl
   ·exact Or.inl rfl
  ·exact tH n w c h
theorem uP(n:Nat):∀ (w a:Nat),(bQ n w).foldl (λ acc c=>acc * 2+(c - 48)) a=a * 2 ^ w+n % 2 ^ w
 | 0,a=>by
  show a=a * 2 ^ 0+n % 2 ^ 0;rw [Nat.pow_zero,Nat.mul_one,Nat.mod_one];rfl
 | w+1,a=>by
  show (bQ n w).foldl (λ acc c=>acc * 2+(c - 48)) (a * 2+(eu n w - 48))=_;rw [uP n w];have eb:eu n w - 48=n / 2 ^ w % 2:=by
   unfold eu;by_cases h:n / 2 ^ w % 2=1
   ·rw [if_pos h,h]
   ·rw [if_neg h];omega
  rw [eb,Nat.mod_pow_succ,Nat.add_mul,Nat.pow_succ,Nat.mul_assoc,Nat.mul_comm 2 (2 ^ w),Nat.mul_comm (n / 2 ^ w % 2)];omega
theorem zaL(n w:Nat):eU (bQ n w)=n % 2 ^ w:=by
 unfold eU;rw [uP];omega
theorem zaK(n w:Nat):(bR n w).cps.toList=bQ n w:=rfl
noncomputable def oP(X:Str)(n:Nat):List (Str × V):=[("text", .str X),("place", .int n)]
noncomputable def RdAt(C:Addr)(H:Hp)(r:Addr)(X:Str)(n:Nat):Prop:=∃ dx,H r=some (.ins C dx (oP X n))
noncomputable def Kp(r:Addr)(H H':Hp):Prop:=∀ b o,b≠r->H b=some o->H' b=some o
theorem Kp.refl(r:Addr)(H:Hp):Kp r H H:=λ _ _ _ e=>e
theorem Kp.trans{H'':Hp}(a:Kp r H H')(b:Kp r H' H''):Kp r H H'':=λ c o n e=>b c o n (a c o n e)
theorem Kp.of(s:Same H H'):Kp r H H':=λ c o _ e=>s c o e
theorem Kp.own    : Kp r H (upd H r o):=λ c o' n e=>by rw [ag n];exact e
theorem RdAt.same{X:Str}(h:RdAt C H r X n)(s:Same H H'):RdAt C H' r X n:=by
 obtain ⟨dx,h⟩:=h;exact ⟨dx,s _ _ h⟩
theorem ig{X:Str}{b:Addr}(h:RdAt C H r X n)(hb:H b=none):b≠r:=λ z=>by
 obtain ⟨dx,h⟩:=h;rw [z,h] at hb;cases hb
theorem Kp.lst{X:Str}{xs:List V}(h:RdAt C H r X n)(k:Kp r H H')(e:H a=some (.lst xs)):H' a=some (.lst xs):=by
 refine k a _ (λ z=>?_) e;obtain ⟨dx,h⟩:=h;rw [z,h] at e;cases e
theorem Kp.new{l:Addr}(k:Kp r H H1)(h:H1 l=none):Kp r H (upd H1 l o):=λ b o' n e=>by
 have:=k b o' n e;rw [ag (aF this h)];exact this
theorem RdAt.new{l:Addr}{X:Str}(R:RdAt C H1 r X n)(h:H1 l=none):RdAt C (upd H1 l o) r X n:=by
 obtain ⟨dx,hR⟩:=id R;exact ⟨dx,by rw [ag (ig R h).symm];exact hR⟩
theorem Kp.free{l:Addr}{X:Str}(k:Kp r H H1)(R:RdAt C H1 r X n)(h:H1 l=none):H l=none:=by
 cases e:H l with
 | none=>rfl
 | some o=>rw [k l o (ig R h) e] at h;cases h
theorem RdAt.put{l:Addr}{X:Str}(R:RdAt C H1 r X n)(h:H1 l=some (.lst zs)):RdAt C (upd H1 l o) r X n:=by
 obtain ⟨dx,hR⟩:=R;exact ⟨dx,by rw [ag (λ z=>by rw [← z,hR] at h;cases h)];exact hR⟩
theorem Kp.put{l:Addr}(k:Kp r H H1)(h:H l=none):Kp r H (upd H1 l o):=λ b o' n e=>by
 rw [ag (aF e h)];exact k b o' n e
noncomputable def gG(t:Ad):Sp:=λ vs H Q E=>∃ (r:Addr) (X:Str) (n k:Nat),vs=[.ref r,.int k]/\RdAt t.aX H r X n/\bw X.cps.toList/\X.length<=16777216/\k<=640/\
 (n+k<=X.length->∀ H',Kp r H H'->RdAt t.aX H' r X (n+k)->Q (.int (eU ((X.cps.toList.drop n).take k))) H')/\(X.length < n+k->∀ H',Same H H'->E (.ref t.eV) none H')
theorem sc_Reader_take:aB ["self", "width", "end", "taken"] ["self", "width"] (ax o0):=by walk_at "sc"
theorem zgR(T:Txt K mg t)(F:Fun K "take" "Reader.take" o0 f fd):FnOk P w K mg base (CXr P w) 1 f fd ["self", "width"] (gG t):=by
 refine F.okX sc_Reader_take (λ vs H Q E h=>?_) (λ cdv A outer s H vs Q E hr h=>?_)
 ·obtain ⟨r,X,n,k,rfl,_⟩:=h;rfl
 ·obtain ⟨r,X,n,k,rfl,⟨dx,hR⟩,hb,hz,hk,q1,q2⟩:=h;have hz':X.length<=sizeLine:=by rw [sizeLine_eq];exact hz
  refine ⟨_,(ao (aI (i:=2) sc_Reader_take.nd rfl (Or.inl rfl) (au bv (bC K (pv 0) rfl) (pv 1)))
  (ao (a8 (aQ gB (pv 2) (aR kf (by rfl) T.bH PyProof.Rows.Boot.«len» (aa (bC K (pv 0) rfl) ae)) (aP _)) (am (dP dR T.yJ rfl (by rfl) T.nj (aa aD ae)))
   bq)
  (ao (aI (i:=3) sc_Reader_take.nd rfl (Or.inl rfl) (gg xm (bC K (pv 0) rfl) (eI (bC K (pv 0) rfl)) (eI (pv 2))))
  (ao (cB (pv 0) (pv 2) rfl)
  (am (aC (dB (aQ gB (pv 1) aq (aP _)) (iV zaS (by rfl) T.oi PyProof.Rows.Boot.«int» (aa (pv 3) (aa aq ae))) aq))))))),?_⟩
  refine ⟨_,rfl,r,_,dx,_,_,rfl,hR,T.cf,T.gN,rfl,_,rfl,_,_,rfl,rfl,?_⟩;refine ⟨_,rfl,_,rfl,r,_,dx,_,_,rfl,hR,T.cf,T.jc,rfl,X,rfl,hz',_,_,rfl,rfl,_,rfl,?_⟩;by_cases c:X.length < n+k
  ·rw [aN (show (X.length:Int) < (n:Int)+(k:Int) by omega)];exact aE ⟨by show 1<=sizeLine;decide,q2 c H (Same.refl H)⟩
  ·rw [aK (show ¬ (X.length:Int) < (n:Int)+(k:Int) by omega)];refine ay ?_;refine ⟨_,rfl,r,_,dx,_,_,rfl,hR,T.cf,T.jc,rfl,_,rfl,r,_,dx,_,_,rfl,hR,T.cf,T.gN,rfl,_,rfl,_,rfl,_,rfl,X,n,n+k,rfl,rfl,rfl,by omega,by omega,hz',?_⟩;refine ⟨_,rfl,_,rfl,r,_,dx,_,rfl,hR,T.cf,T.gN,by show 2 < 1000;decide,?_⟩;have hR':RdAt t.aX (upd H r (.ins t.aX dx (cy "place" (.int ((n:Int)+(k:Int))) (oP X n)))) r X (n+k):=⟨dx,ah⟩
   have q1:=q1 (by omega) _ Kp.own hR';refine ⟨_,rfl,_,_,rfl,rfl,_,rfl,?_⟩;by_cases c0:k=0
   ·subst c0;exact ay q1
   ·rw [aN (show (0:Int) < (k:Int) by omega)];have el:((X.cps.toList.drop n).take k).length=k:=by
     rw [bc,List.length_drop,Array.length_toList];show min k (X.length - n)=k;omega
    have ec:n+k - n=k:=by omega
    refine aE ⟨_,rfl,_,rfl,?_,?_,?_,?_⟩
    ·intro c' hc';rw [ec] at hc';exact hb c' (List.mem_of_mem_drop (List.mem_of_mem_take hc'))
    ·intro z;have z:(X.cps.toList.drop n).take (n+k - n)=[]:=z;rw [ec] at z;rw [z] at el;exact c0 el.symm
    ·show ((X.cps.toList.drop n).take (n+k - n)).toArray.size<=640;rw [ec,a9,el];exact hk
    ·show Q (.int (eU ((X.cps.toList.drop n).take (n+k - n)))) _;rw [ec];exact q1
noncomputable def xF(t:Ad):Sp:=λ vs H Q _=>∃ (r:Addr) (X:Str) (n:Nat),vs=[.ref r]/\RdAt t.aX H r X n/\X.length<=16777216/\Q (.bl (decide (n < X.length))) H
theorem zij:aB ["self"] ["self"] (ax oY):=by walk_at "sc"
theorem zf7(T:Txt K mg t)(F:Fun K "has_more" "Reader.has_more" oY f fd):FnOk P w K mg base CX0 1 f fd ["self"] (xF t):=by
 refine F.ok zij (λ vs H Q E h=>?_) (λ cdv A outer s H vs Q E hr h=>?_)
 ·obtain ⟨r,X,n,rfl,_⟩:=h;rfl
 ·obtain ⟨r,X,n,rfl,⟨dx,hR⟩,hz,q⟩:=h;have hz':X.length<=sizeLine:=by rw [sizeLine_eq];exact hz
  refine ⟨_,(am (aC (iW oz (bC K (pv 0) rfl) (aR kf (by rfl) T.bH PyProof.Rows.Boot.«len» (aa (bC K (pv 0) rfl) ae)) (aP _)))),?_⟩;refine ⟨_,rfl,r,_,dx,_,_,rfl,hR,T.cf,T.gN,rfl,_,rfl,r,_,dx,_,_,rfl,hR,T.cf,T.jc,rfl,X,rfl,hz',_,_,rfl,rfl,?_⟩;have e:decide ((n:Int) < (X.length:Int))=decide (n < X.length):=by
   by_cases c:n < X.length
   ·rw [aN c,aN (show (n:Int) < (X.length:Int) by omega)]
   ·rw [aK c,aK (show ¬ (n:Int) < (X.length:Int) by omega)]
  show Q (.bl (decide ((n:Int) < (X.length:Int)))) H;rw [e];exact q
noncomputable def x9(t:Ad):Sp:=λ vs H Q _=>∃ (r:Addr) (X:Str) (b n:Nat),vs=[.ref r,.int b]/\RdAt t.aX H r X n/\X.length<=16777216/\b<=n/\n<=X.length/\Q (.str ⟨((X.cps.toList.drop b).take (n - b)).toArray⟩) H
theorem zil:aB ["self", "place"] ["self", "place"] (ax o3):=by walk_at "sc"
theorem zgS(T:Txt K mg t)(F:Fun K "taken_since" "Reader.taken_since" o3 f fd):FnOk P w K mg base CX0 1 f fd ["self", "place"] (x9 t):=by
 refine F.ok zil (λ vs H Q E h=>?_) (λ cdv A outer s H vs Q E hr h=>?_)
 ·obtain ⟨r,X,b,n,rfl,_⟩:=h;rfl
 ·obtain ⟨r,X,b,n,rfl,⟨dx,hR⟩,hz,hb,hn,q⟩:=h;have hz':X.length<=sizeLine:=by rw [sizeLine_eq];exact hz
  refine ⟨_,(am (aC (gg xm (bC K (pv 0) rfl) (eI (pv 1)) (eI (bC K (pv 0) rfl))))),?_⟩;exact ⟨_,rfl,r,_,dx,_,_,rfl,hR,T.cf,T.jc,rfl,_,rfl,_,rfl,_,rfl,r,_,dx,_,_,rfl,hR,T.cf,T.gN,rfl,_,rfl,X,b,n,rfl,rfl,rfl,hb,hn,hz',q⟩
noncomputable def xo(t:Ad):Sp:=λ vs H Q E=>∃ (p dx:Addr) (X:Str),vs=[.ref p,.str X]/\H p=some (.ins t.aX dx [])/\X.length<=16777216/\
 (bw X.cps.toList->∀ H':Hp,RdAt t.aX H' p X 0->(∀ b,b≠p->H' b=H b)->Q .non H')/\(¬ bw X.cps.toList->∀ H',Same H H'->E (.ref t.eV) none H')
theorem tI:∀ l:List Nat,(l.count 48+l.count 49<=l.length)/\(l.count 48+l.count 49=l.length↔bw l)
 | []=>⟨Nat.le_refl _,⟨λ _ c h=>(by cases h),λ _=>rfl⟩⟩
 | c::r=>by
  obtain ⟨h1,h2⟩:=tI r;have hb:bw (c::r)↔(c=48\/c=49)/\bw r:=⟨λ h=>⟨h c bB,λ d hd=>h d (bp _ hd)⟩,λ h d hd=>(al_mc.mp hd).elim (λ e=>by rw [e];exact h.1) (h.2 d)⟩
  rw [hb,← h2,List.count_cons,List.count_cons,List.length_cons];by_cases e0:c=48
  ·subst e0;simp;omega
  ·by_cases e1:c=49
   ·subst e1;simp;omega
   ·have x0:(c == 48)=false:=by simpa using e0
    have x1:(c == 49)=false:=by simpa using e1
    rw [x0,x1];simp [e0,e1];omega
theorem zik:aB ["self", "text"] ["self", "text"] (ax oZ):=by walk_at "sc"
theorem zfC(T:Txt K mg t)(F:Fun K "__init__" "Reader.__init__" oZ f fd):FnOk P w K mg base (CXr P w) 1 f fd ["self", "text"] (xo t):=by
 refine F.okX zik (λ vs H Q E h=>?_) (λ cdv A outer s H vs Q E hr h=>?_)
 ·obtain ⟨p,dx,X,rfl,_⟩:=h;rfl
 ·obtain ⟨p,dx,X,rfl,hp,hz,q1,q2⟩:=h;have hz':X.length<=sizeLine:=by rw [sizeLine_eq];exact hz
  refine ⟨_,(ao (a8 (aQ dY (au bv (bW K PySem.F.plainAttrs_str PySem.F.slot_str_count PySem.F.type_str_count vL (pv 1) (aa aD ae)) (bW K PySem.F.plainAttrs_str PySem.F.slot_str_count PySem.F.type_str_count vL (pv 1) (aa aD ae))) (aR kf (by rfl) T.bH PyProof.Rows.Boot.«len» (aa (pv 1) ae)) (aP _)) (am (dP dR T.yJ rfl (by rfl) T.nj (aa aD ae)))
   bq)
  (ao (cB (pv 0) (pv 1) rfl)
  (am (cB (pv 0) aq rfl)))),?_⟩
  refine ⟨_,rfl,rfl,X, "0", rfl,rfl,_,rfl,rfl,X, "1", rfl,rfl,_,_,rfl,rfl,_,rfl,X,rfl,hz',rfl,_,rfl,?_⟩;rw [dec_int];have e0:Txt.count X "0" = ((X.cps.toList.count 48:Nat):Int):=by rw [vv];exact xj X 48
  have e1:Txt.count X "1" = ((X.cps.toList.count 49:Nat):Int):=by rw [vx];exact xj X 49
  have el:X.cps.toList.length=X.length:=Array.length_toList;obtain ⟨b1,b2⟩:=tI X.cps.toList;rw [e0,e1];by_cases c:bw X.cps.toList
  ·have:=b2.mpr c;rw [aN (show (((X.cps.toList.count 48:Nat):Int)+((X.cps.toList.count 49:Nat):Int))=(X.length:Int) by omega)];refine ay ?_;refine ⟨_,rfl,_,rfl,p,t.aX,dx,_,rfl,hp,T.cf,T.jc,by show 0 < 1000;decide,?_⟩;refine ⟨_,rfl,p,t.aX,dx,_,rfl,ah,T.cf,T.gN,by show 1 < 1000;decide,?_⟩;exact q1 c _ ⟨dx,ah⟩ λ b hb=>by rw [ag hb,ag hb]
  ·have:¬ X.cps.toList.count 48+X.cps.toList.count 49=X.cps.toList.length:=λ z=>c (b2.mp z);rw [aK (show ¬ (((X.cps.toList.count 48:Nat):Int)+((X.cps.toList.count 49:Nat):Int))=(X.length:Int) by omega)];exact aE ⟨by show 1<=sizeLine;decide,q2 c H (Same.refl H)⟩
theorem mZ{o:OI}(h:okV o=true):T1.fo o < 2 ^ 24:=by
 cases o with
 | none=>show 0 < 2 ^ 24;decide
 | some i=>
  have:=T1.iU h;show (i+4000001).toNat < 2 ^ 24;omega
noncomputable def cS(rs:List (OI × Nat)):List OI:=(rs.map λ q=>List.replicate q.2 q.1).flatten
theorem lE(rs:List (OI × Nat))(q:OI × Nat):cS (rs++[q])=cS rs++List.replicate q.2 q.1:=by
 unfold cS;rw [aJ,List.flatten_append];simp
theorem zj2(rs:List (OI × Nat))(v:OI):cS (gi rs v)=cS rs++[v]:=by
 rcases List.eq_nil_or_concat rs with rfl | ⟨r,⟨u,k⟩,rfl⟩
 ·rfl
 ·rw [List.concat_eq_append,jD]
  split
  ·rename_i h
   subst h;rw [lE,lE,List.replicate_succ',List.append_assoc]
  ·rw [lE (r++[(u,k)]) (v,1)];rfl
theorem zj1(xs:List OI):cS (b9 xs)=xs:=by
 have key:∀ n,n<=xs.length->cS (b9 (xs.take n))=xs.take n:=by
  intro n;induction n with
  | zero=>intro _;rfl
  | succ n ih=>
   intro h;rw [cN h,jF,zj2,ih (by omega)]
 have:=key xs.length (Nat.le_refl _)
 rwa [bd] at this
theorem yG:∀ {rs:List (OI × Nat)} {q:OI × Nat},q∈rs->q.2<=(cS rs).length
 | a::r,q,h=>by
  have e:cS (a::r)=List.replicate a.2 a.1++cS r:=rfl;rw [e,aO,List.length_replicate];rcases al_mc.mp h with h | h
  ·subst h;omega
  ·have:=yG h;omega
theorem zbW(d:Int):(if bV d % 2=0 then bV d / 2 else -(bV d / 2) - 1)=d:=by
 unfold bV;by_cases h:0<=d
 ·rw [if_pos h,if_pos (by omega)];omega
 ·rw [if_neg h,if_neg (by omega)];omega
theorem zaf{X:Str}{v:Nat}(h:At X.cps.toList n (bQ v k))(hv:v < 2 ^ k):n+k<=X.length/\eU ((X.cps.toList.drop n).take k)=v:=by
 have h1:=h.le;have h2:=h.cut;rw [eT] at h1 h2;rw [Array.length_toList] at h1;exact ⟨h1,by rw [h2,zaL,Nat.mod_eq_of_lt hv]⟩
theorem eJ{X:Str}{v:Nat}(R:RdAt t.aX H r X n)(hb:bw X.cps.toList)(hz:X.length<=16777216)(hk:k<=640)(h:At X.cps.toList n (bQ v k))(hv:v < 2 ^ k)(q:∀ H',Kp r H H'->RdAt t.aX H' r X (n+k)->Q (.int (v:Int)) H'):gG t [.ref r,.int (k:Int)] H Q E:=by
 obtain ⟨h1,h2⟩:=zaf h hv;refine ⟨r,X,n,k,rfl,R,hb,hz,hk,λ _ H' k' R'=>?_,λ z=>absurd h1 (by omega)⟩;rw [h2];exact q H' k' R'
theorem tk1{v:V}(h:sp [x,v] H Q E):gK (tC v) dQ σ H (λ vs H2=>sp (x::(vs++[])) H2 Q E):=h
theorem tkv{v:V}(hv:σ[i]?=some (some v))(h:sp [x,v] H Q E):gK (cj i) dQ σ H (λ vs H2=>sp (x::(vs++[])) H2 Q E):=⟨v,hv,h⟩
noncomputable def rK(t:Ad):Sp:=λ vs H Q _=>∃ (r:Addr) (X:Str) (n:Nat) (o:OI),vs=[.ref r]/\RdAt t.aX H r X n/\bw X.cps.toList/\X.length<=16777216/\okV o=true/\At X.cps.toList n (bX o).cps.toList/\
 ∀ H',Kp r H H'->RdAt t.aX H' r X (n+24)->Q (ov o) H'
theorem sc_read_value:aB ["reader", "number"] ["reader"] (ax qC):=by walk_at "sc"
theorem zgH(T:Txt K mg t)(CT:bn P w K mg base (CXr P w) 1 t.aX "take" ["self", "width"] (gG t))(F:Fun K "read_value" "read_value" qC f fd):FnOk P w K mg base CX0 3 f fd ["reader"] (rK t):=by
 obtain ⟨jk,jl,cT,cY,cU⟩:=CT;refine F.ok sc_read_value (λ vs H Q E h=>?_) (λ cdv A outer s H vs Q E hr h=>?_)
 ·obtain ⟨r,T,n,o,rfl,_⟩:=h;rfl
 ·obtain ⟨r,X,n,o,rfl,R,hb,hz,ho,ha,q⟩:=h;refine ⟨_,(ao (aI (i:=1) sc_read_value.nd rfl (Or.inl rfl) (bJ (pv 0) T.cf cY cT (hr.mono (by decide)) cU .nil cx (aa (bo T.fW) ae)))
  (am (aC (dB (aQ c6 (pv 1) aq (aP _)) bx (au cF (pv 1) (bo T.ko)))))),?_⟩
  obtain ⟨dx,hR⟩:=id R;refine ⟨_,rfl,r,dx,_,rfl,hR,rfl,tk1 (eJ (k:=24) R hb hz (by decide) ha (mZ ho) λ H1 k1 R1=>?_)⟩;have q:=q H1 k1 R1;refine ⟨_,rfl,rfl,_,rfl,?_⟩;rw [dec_int];cases o with
  | none=>exact aE q
  | some i=>
   have hi:=iU ho;have ec:((fo (some i):Nat):Int)=i+4000001:=by
    show (((i+4000001).toNat:Nat):Int)=_;omega
   rw [ec,aK (show ¬ i+4000001=0 by omega)];refine ay ⟨_,rfl,_,_,rfl,rfl,?_⟩;show Q (.int (i+4000001 - 4000001)) H1;rw [show i+4000001 - 4000001=i by omega];exact q
theorem zhu(xs:List OI):(dD xs).cps.toList=(xs.map λ o=>(bX o).cps.toList).flatten:=by
 unfold dD;rw [eX,List.map_map];rfl
theorem j8{α:Type}{f:α->List Nat}{k:Nat}{X:List Nat}:∀ {l:List α} {n:Nat},(∀ a,(f a).length=k)->At X n ((l.map f).flatten)->∀ (i:Nat) (a:α),l[i]?=some a->At X (n+k * i) (f a)
 | b::r,n,hk,h,0,a,e=>by
  cases e;rw [List.map_cons,List.flatten_cons] at h;rw [Nat.mul_zero];exact h.left
 | b::r,n,hk,h,i+1,a,e=>by
  rw [List.map_cons,List.flatten_cons] at h;have:=j8 (l:=r) hk h.right i a e;rw [hk b] at this;rw [show n+k * (i+1)=n+k+k * i by rw [Nat.mul_succ];omega];exact this
noncomputable def lv(t:Ad):Sp:=λ vs H Q _=>∃ (r:Addr) (X:Str) (n:Nat) (xs:List OI),vs=[.ref r,.int xs.length]/\RdAt t.aX H r X n/\bw X.cps.toList/\X.length<=16777216/\xs.length<=1000/\xs.all okV=true/\At X.cps.toList n (dD xs).cps.toList/\
 ∀ (l:Addr) (H':Hp),Kp r H H'->H l=none->RdAt t.aX H' r X (n+24 * xs.length)->H' l=some (.lst (xs.map ov))->Q (.ref l) H'
theorem zfh:(["place", "reader"]:List Str).Nodup:=by decide +kernel
theorem ziW:aB ["reader", "length"] ["reader", "length"] (ax qz):=by walk_at "sc"
theorem zgE(T:Txt K mg t)(iE:Cal P w K mg base CX0 3 "read_value" ["reader"] (rK t))(F:Fun K "read_plain" "read_plain" qz f fd):FnOk P w K mg base CX0 4 f fd ["reader", "length"] (lv t):=by
 refine F.ok ziW (λ vs H Q E h=>?_) (λ cdv A outer s H vs Q E hr h=>?_)
 ·obtain ⟨r,T,n,xs,rfl,_⟩:=h;rfl
 ·obtain ⟨r,X,n,xs,rfl,R,hb,hz,hl,hok,ha,q⟩:=h;rw [zhu] at ha;have hv:=λ i a e=>j8 (f:=λ o=>(bX o).cps.toList) (k:=24) (λ o=>by show (bQ _ _).toArray.toList.length=24;exact eT _ _) ha i a e;refine ⟨_,(am (aC (cL (N:=["place", "reader"]) (fr:=[none,some 0]) ⟨rfl,rfl,rfl,rfl,rfl,rfl⟩ rfl (eG (by rfl) T.dA (aa (pv 1) ae))
    (λ C fp s H=>⟨aU (i:=0) zfh rfl (Or.inl rfl),bZ,(iE.pe hr az (aa (pv 1) ae))⟩)))),?_⟩
  refine ⟨_,rfl,_,rfl,by omega,by omega,?_⟩;rw [Int.toNat_natCast];refine ⟨gQ (λ i acc H'=>Kp r H H'/\RdAt t.aX H' r X (n+24 * i)/\acc=(xs.take i).map ov) ⟨Kp.refl _ _,R,rfl⟩ (λ i acc H' hi hp=>by rw [hp.2.2,aj,bc];omega) (Nat.le_of_lt (br hl)) ?_ ?_⟩
  ·rintro i acc H1 hi ⟨k1,R1,rfl⟩;refine ⟨Wk.set rfl,tT ⟨_,rfl,r,X,n+24 * i,at' xs i,rfl,R1,hb,hz,List.all_eq_true.mp hok _ (aS (getD_at' hi)),hv i _ (getD_at' hi),λ H2 k2 R2=>cw hi ⟨k1.trans k2,?_,?_⟩⟩⟩
   ·rw [show n+24 * (i+1)=n+24 * i+24 by omega];exact R2
   ·rw [cN hi,aJ];rfl
  ·rintro acc H1 ⟨k1,R1,rfl⟩ l hln;rw [bd];exact q l _ (k1.new hln) (k1.free R1 hln) (R1.new hln) ah
noncomputable def fJ(t:Ad)(j:Nat):Sp:=λ vs H Q _=>∃ (r:Addr) (X:Str) (n:Nat) (xs:List OI),vs=[.ref r,.int xs.length]/\RdAt t.aX H r X n/\bw X.cps.toList/\X.length<=16777216/\okB xs=true/\rm xs j≠.none/\At X.cps.toList n (cV j xs).cps.toList/\
 ∀ (l:Addr) (H':Hp),Kp r H H'->H l=none->RdAt t.aX H' r X (n+(cV j xs).length)->H' l=some (.lst (xs.map ov))->Q (.ref l) H'
theorem zh6(h:fJ t 0 vs H Q E):lv t vs H Q E:=by
 obtain ⟨r,X,n,xs,e,R,hb,hz,okb,_,ha,q⟩:=h;obtain ⟨h1,h2⟩:=fe okb;refine ⟨r,X,n,xs,e,R,hb,hz,by omega,h1,ha,λ l H' k hn R' h'=>q l H' k hn ?_ h'⟩;show RdAt t.aX H' r X (n+(dD xs).length);rw [kY];exact R'
theorem zid(q:OI × Nat):(c5 q).cps.toList=(bX q.1).cps.toList++bQ (q.2 - 1) 8:=by
 unfold c5;rw [df,zaK]
theorem zie(q:OI × Nat):(c5 q).cps.toList.length=32:=by
 rw [Array.length_toList];exact ou q
theorem sc_read_runs:aB ["reader", "length", "values", "place", "value", "times"] ["reader", "length"] (ax qA):=by walk_at "sc"
theorem zgF(T:Txt K mg t)(CT:bn P w K mg base (CXr P w) 1 t.aX "take" ["self", "width"] (gG t))(iE:Cal P w K mg base CX0 3 "read_value" ["reader"] (rK t))(F:Fun K "read_runs" "read_runs" qA f fd):
  FnOk P w K mg base CX0 4 f fd ["reader", "length"] (fJ t 1):=by
 obtain ⟨jk,jl,cT,cY,cU⟩:=CT;refine F.ok sc_read_runs (λ vs H Q E h=>?_) (λ cdv A outer s H vs Q E hr h=>?_)
 ·obtain ⟨r,T,n,xs,rfl,_⟩:=h;rfl
 ·obtain ⟨r,X,n,xs,rfl,R,hb,hz,okb,_,ha,q⟩:=h;obtain ⟨hok,h100⟩:=fe okb;have h0:=gd okb;have hlen:(cV 1 xs).length=8+32 * (b9 xs).length:=xa xs;rw [hlen] at q;have ha:At X.cps.toList n (bQ ((b9 xs).length - 1) 8++((b9 xs).map λ q=>(c5 q).cps.toList).flatten):=by
   have e:(cV 1 xs).cps.toList=bQ ((b9 xs).length - 1) 8++((b9 xs).map λ q=>(c5 q).cps.toList).flatten:=by
    show (ij xs).cps.toList=_;unfold ij;rw [df,eX,List.map_map];rfl
   rw [← e];exact ha
  have hfacts:=xb xs;have hpos:=xc h0;have hle:=jE xs;have hun:=zj1 xs;generalize b9 xs=rs at q ha hfacts hpos hle hun;have ha2:=ha.right;rw [eT] at ha2;have hv:=λ i a e=>j8 (f:=λ q=>(c5 q).cps.toList) (k:=32) zie ha2 i a e;refine ⟨_,(ao (aI (i:=2) sc_read_runs.nd rfl (Or.inl rfl) (bD ae))
  (ao (dO PassesOwn.never rfl (eG (by rfl) T.dA (aa (au bv (bJ (pv 0) T.cf cY cT (hr.mono (by decide)) cU .nil cx (aa (bo T.ny) ae)) aq) ae)) (aU (i:=3) sc_read_runs.nd rfl (Or.inl rfl))
   (ao (aI (i:=4) sc_read_runs.nd rfl (Or.inl rfl) (iE.pe hr az (aa (pv 0) ae)))
  (ao (aI (i:=5) sc_read_runs.nd rfl (Or.inl rfl) (au bv (bJ (pv 0) T.cf cY cT (hr.mono (by decide)) cU .nil cx (aa (bo T.nA) ae)) aq))
  (am (bP (bW K PySem.F.plainAttrs_list PySem.F.slot_list_extend PySem.F.type_list_extend vJ (pv 2) (aa (au zg8 (bD (aa (pv 4) ae)) (pv 5)) ae)))))))
  (am (aC (pv 2))))),?_⟩
  refine ⟨bf rfl,λ l hln=>?_⟩;have R1:=R.new (o:=.lst []) hln;have k1:Kp r H (upd H l (.lst [])):=(Kp.refl r H).new hln;have h1:(upd H l (.lst [])) l=some (.lst (([]:List OI).map ov)):=ah;have nlr:=ig R hln;generalize upd H l (.lst [])=H1 at R1 k1 h1;obtain ⟨dx,hR1⟩:=id R1;refine ⟨_,rfl,r,dx,_,rfl,hR1,rfl,tk1 (eJ (k:=8) R1 hb hz (by decide) ha.left (show rs.length - 1 < 2 ^ 8 by omega) λ H2 k2 R2=>?_)⟩;have h2:=k2 l _ nlr h1;refine ⟨_,_,rfl,rfl,_,rfl,by omega,by omega,?_⟩;rw [show (((rs.length - 1:Nat):Int)+1).toNat=rs.length by omega];refine ⟨gw (λ i σ H'=>∃ v3 v4 v5:Option V,σ=[some (.ref r),some (.int xs.length),some (.ref l),v3,v4,v5]/\Kp r H H'/\RdAt t.aX H' r X (n+8+32 * i)/\H' l=some (.lst ((cS (rs.take i)).map ov))) ⟨none,none,none,rfl,k1.trans k2,R2,h2⟩ ?_ ?_⟩
  ·rintro i σ H3 hi ⟨v3,v4,v5,rfl,k3,R3,h3⟩;have ex:rs[i]?=some rs[i]:=aA hi;obtain ⟨f1,f2⟩:=hfacts rs[i].1 rs[i].2 (List.getElem_mem hi);have hav:=hv i _ ex;rw [zid] at hav;have hk256:rs[i].2 - 1 < 2 ^ 8:=by
    have hsum:rs[i].2<=(cS rs).length:=yG (List.getElem_mem hi);rw [hun] at hsum;omega
   have vl:((bX rs[i].1).cps.toList).length=24:=by rw [Array.length_toList];exact ir _
   have hav2:=hav.right;rw [vl] at hav2;refine ⟨_,rfl,r,X,_,rs[i].1,rfl,R3,hb,hz,List.all_eq_true.mp hok _ f1,hav.left,λ H4 k4 R4=>?_⟩;obtain ⟨dx4,hR4⟩:=id R4;refine ⟨_,rfl,r,dx4,_,rfl,hR4,rfl,tk1 (eJ (k:=8) R4 hb hz (by decide) hav2 hk256 λ H5 k5 R5=>?_)⟩;have h5:=(k4.trans k5) l _ nlr h3;refine ⟨_,_,rfl,rfl,?_⟩;have etm:((rs[i].2 - 1:Nat):Int)+1=((rs[i].2:Nat):Int):=by omega
   have k5':=(k3.trans k4).trans k5;have hkl:(cS (rs.take i)).length<=100:=by
    have:cS rs=cS (rs.take i)++cS (rs.drop i):=by
     unfold cS;rw [← List.flatten_append,← aJ,List.take_append_drop]
    rw [hun] at this;have:=congrArg List.length this;rw [aO] at this;omega
   refine ⟨_,rfl,.inl ⟨rfl,_,SqL.of h5⟩,_,rfl,bf rfl,λ a1 ha1=>⟨_,rfl,a1,_,_,rfl,rfl,ah,by omega,by omega,?_,λ a2 ha2=>?_⟩⟩
   ·rw [cn];exact Nat.le_of_lt (br (by omega))
   have n1:l≠a1:=aF h5 ha1;have h6:(upd H5 a1 (.lst [ov rs[i].1])) l=some (.lst ((cS (rs.take i)).map ov)):=by rw [ag n1];exact h5
   have n2:l≠a2:=aF h6 ha2;have R6:=(R5.new (o:=.lst [ov rs[i].1]) ha1).new (o:=.lst (List.replicate (((rs[i].2 - 1:Nat):Int)+1).toNat [ov rs[i].1]).flatten) ha2;have h7:(upd (upd H5 a1 (.lst [ov rs[i].1])) a2 (.lst (List.replicate (((rs[i].2 - 1:Nat):Int)+1).toNat [ov rs[i].1]).flatten)) l=some (.lst ((cS (rs.take i)).map ov)):=by rw [ag n2];exact h6
   have tk:rs.take (i+1)=rs.take i++[rs[i]]:=by rw [List.take_add_one,ex];rfl
   refine ⟨l,a2,_,_,rfl,rfl,h7,ah,?_,_,_,_,rfl,((k5'.new ha1).new ha2).put hln,?_,?_⟩
   ·rw [aj,vq,cn];exact Nat.le_of_lt (br (by omega))
   ·rw [show n+8+32 * (i+1)=n+8+32 * i+24+8 by omega];exact R6.put h7
   ·rw [ah,List.flatten_replicate_singleton,tk,lE,aJ,List.map_replicate,show (((rs[i].2 - 1:Nat):Int)+1).toNat=rs[i].2 by omega]
  ·rintro σ H3 ⟨v3,v4,v5,rfl,k3,R3,h3⟩;rw [bd,hun] at h3;refine ⟨_,rfl,q l H3 k3 hln ?_ h3⟩;rw [← Nat.add_assoc];exact R3
theorem vW(h:i<=n):i < 2 ^ aL n:=by
 rw [oh];by_cases e:n=0
 ·rw [if_pos e];have:i=0:=by omega
  subst this;decide
 ·rw [if_neg e];exact Nat.lt_of_le_of_lt h Nat.lt_log2_self
theorem rm2(h:rm xs 2≠.none):(av xs).book.length<=64:=by
 by_cases c:64 < (av xs).book.length
 ·refine absurd ?_ h;show gL (if 64 < (av xs).book.length then .none else _)=_;rw [if_pos c];rfl
 ·omega
theorem mH{g:α->Nat}{l:List α}(h:At X n ((l.map λ a=>(bR (g a) k).cps.toList).flatten))(i:Nat)(a:α)(e:l[i]?=some a):At X (n+k * i) (bQ (g a) k):=
 j8 (f:=λ a=>(bR (g a) k).cps.toList) (λ a=>by show (bQ _ _).toArray.toList.length=k;exact eT _ _) h i a e
theorem zfg:(["place", "width", "reader"]:List Str).Nodup:=by decide +kernel
theorem zff:(["number", "book"]:List Str).Nodup:=by decide +kernel
theorem sc_read_book:aB ["reader", "length", "entries", "book", "width", "numbers"] ["reader", "length"] (ax qy):=by walk_at "sc"
theorem zgD(T:Txt K mg t)(CT:bn P w K mg base (CXr P w) 1 t.aX "take" ["self", "width"] (gG t))(jX:Cal P w K mg base CX0 4 "read_plain" ["reader", "length"] (lv t))(eK:Cal P w K mg base CX0 1 "needed" ["number"] io)(F:Fun K "read_book" "read_book" qy f fd):FnOk P w K mg base CX0 5 f fd ["reader", "length"] (fJ t 2):=by
 obtain ⟨jk,jl,cT,cY,cU⟩:=CT;refine F.ok sc_read_book (λ vs H Q E h=>?_) (λ cdv A outer s H vs Q E hr h=>?_)
 ·obtain ⟨r,T,n,xs,rfl,_⟩:=h;rfl
 ·obtain ⟨r,X,n,xs,rfl,R,hb,hz,okb,hrm,ha,q⟩:=h;obtain ⟨hok,h100⟩:=fe okb;have h0:=gd okb;have hlen:(cV 2 xs).length=6+24 * (av xs).book.length+aL ((av xs).book.length - 1) * xs.length:=tU xs;rw [hlen] at q;have ha:At X.cps.toList n (bQ ((av xs).book.length - 1) 6++((dD (av xs).book).cps.toList++(xs.map λ v=>(bR ((av xs).book.idxOf v) (aL ((av xs).book.length - 1))).cps.toList).flatten)):=by
   have e:(cV 2 xs).cps.toList=bQ ((av xs).book.length - 1) 6++((dD (av xs).book).cps.toList++(xs.map λ v=>(bR ((av xs).book.idxOf v) (aL ((av xs).book.length - 1))).cps.toList).flatten):=by
    show (gP xs).cps.toList=_;unfold gP;rw [df,df,eX,List.map_map,List.append_assoc];rfl
   rw [← e];exact ha
  have h64:=rm2 hrm;have hle:=tV xs;have hmem:=nX (xs:=xs) xs.length;rw [bd] at hmem;generalize (av xs).book=ws at q ha h64 hle hmem;have hpos:0 < ws.length:=List.length_pos_of_mem ((hmem _ (Nat.le_refl _)).mpr (aS (getD_at' h0)));have okw:ws.all okV=true:=List.all_eq_true.mpr λ v hv=>List.all_eq_true.mp hok v ((hmem v (Nat.le_refl _)).mp hv);have hw:aL (ws.length - 1)<=6:=hV (by omega);have ha2:=ha.right;rw [eT] at ha2;have ha3:=ha2.right;rw [Array.length_toList,show (dD ws).cps.size=24 * ws.length from kY ws] at ha3;have hv:=λ i a e=>mH ha3 i a e;refine ⟨_,(ao (aI (i:=2) sc_read_book.nd rfl (Or.inl rfl) (au bv (bJ (pv 0) T.cf cY cT (hr.mono (by decide)) cU .nil cx (aa (bo T.nu) ae)) aq))
  (ao (aI (i:=3) sc_read_book.nd rfl (Or.inr rfl) (jX.pe hr az (aa (pv 0) (aa (pv 2) ae))))
  (ao (aI (i:=4) sc_read_book.nd rfl (Or.inr rfl) (eK.pe hr az (aa (au cF (pv 2) aq) ae)))
  (ao (iZ (i:=5) sc_read_book.nd rfl (Or.inl rfl) (N:=["place", "width", "reader"]) (fr:=[none,some 4,some 0]) ⟨rfl,rfl,rfl,rfl,rfl,rfl⟩ rfl (eG (by rfl) T.dA (aa (pv 1) ae))
    (λ C fp s H=>⟨aU (i:=0) zfg rfl (Or.inl rfl),bZ,(bJ (pv 2) T.cf cY cT (hr.mono (by decide)) cU .nil cx (aa (pv 1) ae))⟩))
  (ao (a8 (aQ oy (aR (za1 K rfl) (by rfl) T.oj PyProof.Rows.Boot.«max» (aa (pv 5) ae)) (pv 2) (aP _)) oO
   bq)
  (am (aC (cL (N:=["number", "book"]) (fr:=[none,some 3]) ⟨rfl,rfl,rfl,rfl,rfl,rfl⟩ rfl (cH (pv 5))
    (λ C fp s H=>⟨aU (i:=0) zff rfl (Or.inl rfl),bZ,(bj (bG K) (pv 1) (pv 0) (λ _ _=>rfl))⟩))))))))),?_⟩
  obtain ⟨dx,hR⟩:=id R;refine ⟨_,rfl,r,dx,_,rfl,hR,rfl,tk1 (eJ (k:=6) R hb hz (by decide) ha.left (show ws.length - 1 < 2 ^ 6 by omega) λ H1 k1 R1=>?_)⟩;have ew:((ws.length - 1:Nat):Int)+1=(ws.length:Int):=by omega
  refine ⟨_,_,rfl,rfl,_,rfl,_,rfl,r,X,n+6,ws,?_,R1,hb,hz,by omega,okw,ha2.left,λ lb H2 k2 hlb R2 h2=>?_⟩
  ·show [V.ref r,V.int (((ws.length - 1:Nat):Int)+1)]=_;rw [ew]
  have k12:=k1.trans k2;have hlb0:=k1.free R1 hlb;have nlb:lb≠r:=ig R1 hlb;refine ⟨_,rfl,_,_,rfl,rfl,_,rfl,by omega,?_⟩;have en:(((ws.length - 1:Nat):Int)+1 - 1).toNat=ws.length - 1:=by omega
  rw [en];refine ⟨_,rfl,_,rfl,by omega,by omega,?_⟩;rw [Int.toNat_natCast];refine ⟨gQ (λ i acc H'=>Kp r H2 H'/\RdAt t.aX H' r X (n+6+24 * ws.length+aL (ws.length - 1) * i)/\acc=((xs.take i).map λ v=>((ws.idxOf v:Nat):Int)).map V.int) ⟨Kp.refl _ _,R2,rfl⟩ (λ i acc H' hi hp=>by rw [hp.2.2,aj,aj,bc];omega) (Nat.le_of_lt (br (by omega))) ?_ ?_⟩
  ·rintro i acc H3 hi ⟨k3,R3,rfl⟩;obtain ⟨dx3,hR3⟩:=id R3;have hm:at' xs i∈ws:=(hmem _ (Nat.le_refl _)).mpr (aS (getD_at' hi));have hix:ws.idxOf (at' xs i) < ws.length:=List.idxOf_lt_length_of_mem hm;refine ⟨Wk.set rfl,tT ⟨_,rfl,r,dx3,_,rfl,hR3,rfl,tkv rfl (eJ (k:=aL (ws.length - 1)) R3 hb hz (by omega) (hv i _ (getD_at' hi)) (vW (i:=ws.idxOf (at' xs i)) (n:=ws.length - 1) (by omega)) λ H4 k4 R4=>cw hi ⟨k3.trans k4,?_,?_⟩)⟩⟩
   ·rw [Nat.mul_succ,← Nat.add_assoc];exact R4
   ·rw [cN hi,aJ,aJ];rfl
  ·rintro acc H3 ⟨k3,R3,rfl⟩ ln hln;rw [bd];have k4:=k3.new (o:=.lst ((xs.map λ v=>((ws.idxOf v:Nat):Int)).map V.int)) hln;have R4:=R3.new (o:=.lst ((xs.map λ v=>((ws.idxOf v:Nat):Int)).map V.int)) hln;have h4:(upd H3 ln (.lst ((xs.map λ v=>((ws.idxOf v:Nat):Int)).map V.int))) ln=some (.lst ((xs.map λ v=>((ws.idxOf v:Nat):Int)).map V.int)):=ah;generalize upd H3 ln (.lst ((xs.map λ v=>((ws.idxOf v:Nat):Int)).map V.int))=H4 at k4 R4 h4;have b4:=k4 lb _ nlb h2;obtain ⟨M,hM⟩:=nV (l:=xs.map λ v=>((ws.idxOf v:Nat):Int)) (by intro z;rw [List.map_eq_nil_iff.mp z] at h0;cases h0);have hMm:=kD hM;have hMlt:M < (ws.length:Int):=by
    obtain ⟨v,hv',rfl⟩:=List.mem_map.mp hMm;have:=List.idxOf_lt_length_of_mem ((hmem v (Nat.le_refl _)).mpr hv');omega
   refine ⟨_,rfl,ln,_,M,rfl,SqL.of h4,hMm,nU hM,_,rfl,_,_,rfl,rfl,_,rfl,?_⟩;rw [aK (show ¬ (((ws.length - 1:Nat):Int)+1)<=M by omega)];refine ay ?_;refine ⟨_,rfl,ln,rfl,⟨_,SqL.of h4⟩,⟨de (xs:=(xs.map λ v=>((ws.idxOf v:Nat):Int)).map V.int) (λ i acc H'=>Same H4 H'/\acc=(xs.take i).map ov) ⟨Same.refl _,rfl⟩ ?_ ?_ ?_ ?_⟩⟩
   ·rintro i acc H5 hi ⟨s5,rfl⟩;refine ⟨SqL.of (s5 _ _ h4),?_⟩;rw [aj,bc];omega
   ·rw [aj,aj];exact Nat.le_of_lt (br (by omega))
   ·rintro i y acc H5 hx hlt ⟨s5,rfl⟩;have hlt':i < xs.length:=by rwa [aj,aj] at hlt
    rw [aH,aH,getD_at' hlt'] at hx;cases hx;have hm:at' xs i∈ws:=(hmem _ (Nat.le_refl _)).mpr (aS (getD_at' hlt'));have hix:ws.idxOf (at' xs i) < ws.length:=List.idxOf_lt_length_of_mem hm;have a1:atI (ws.map ov) ((ws.idxOf (at' xs i):Nat):Int)=some (ov (at' xs i)):=dU (by rw [aH,aA hix,List.getElem_idxOf hix];rfl);refine ⟨Wk.set rfl,tT ⟨_,rfl,_,rfl,lb,_,_,_,rfl,rfl,SqL.of (s5 _ _ b4),a1,cw hlt ⟨s5,?_⟩⟩⟩;rw [cN hlt',aJ];rfl
   ·rintro acc H5 ⟨s5,rfl⟩ l hl5;rw [aj,aj,bd];have k5:Kp r H H5:=(k12.trans k4).trans (Kp.of s5);have R5:=R4.same s5;refine q l _ (k5.new hl5) (k5.free R5 hl5) ?_ ah;rw [show n+(6+24 * ws.length+aL (ws.length - 1) * xs.length)=n+6+24 * ws.length+aL (ws.length - 1) * xs.length by omega];exact R5.new hl5
theorem uD{ns:List Int}(h:At X n (dI ns).cps.toList):At X n (bQ (aL (bu ns).toNat) 5)/\At X (n+5) ((ns.map λ m=>(bR m.toNat (aL (bu ns).toNat)).cps.toList).flatten):=by
 have e:(dI ns).cps.toList=bQ (aL (bu ns).toNat) 5++(ns.map λ m=>(bR m.toNat (aL (bu ns).toNat)).cps.toList).flatten:=by
  unfold dI;rw [df,eX,List.map_map];rfl
 rw [e] at h;have h2:=h.right;rw [eT] at h2;exact ⟨h.left,h2⟩
theorem yD{ns:List Int}(h:m∈ns):m.toNat < 2 ^ aL (bu ns).toNat:=by
 have:=zjP ns m (bp _ h);exact vW (by omega)
theorem zfe:(["place", "width", "reader"]:List Str).Nodup:=by decide +kernel
theorem zfd:(["number", "least"]:List Str).Nodup:=by decide +kernel
theorem sc_read_base:aB ["reader", "length", "least", "width", "numbers"] ["reader", "length"] (ax qw):=by walk_at "sc"
theorem zgB(T:Txt K mg t)(CT:bn P w K mg base (CXr P w) 1 t.aX "take" ["self", "width"] (gG t))(F:Fun K "read_base" "read_base" qw f fd):FnOk P w K mg base CX0 3 f fd ["reader", "length"] (fJ t 3):=by
 obtain ⟨jk,jl,cT,cY,cU⟩:=CT;refine F.ok sc_read_base (λ vs H Q E h=>?_) (λ cdv A outer s H vs Q E hr h=>?_)
 ·obtain ⟨r,T,n,xs,rfl,_⟩:=h;rfl
 ·obtain ⟨r,X,n,xs,rfl,R,hb,hz,okb,hrm,ha,q⟩:=h;obtain ⟨hok,h100⟩:=fe okb;have h0:=gd okb;have hlen:(cV 3 xs).length=24+(5+aL (bu (xs.map (above (aZ xs)))).toNat * xs.length):=zaH xs;rw [hlen] at q;have ha:At X.cps.toList n ((bX (some (aZ xs))).cps.toList++(dI (xs.map (above (aZ xs)))).cps.toList):=by
   have e:(cV 3 xs).cps.toList=(bX (some (aZ xs))).cps.toList++(dI (xs.map (above (aZ xs)))).cps.toList:=by
    show (gs xs).cps.toList=_;unfold gs;rw [df]
   rw [← e];exact ha
  have hlo:=nJ hok;have hli:=iU hlo;have hab:=j7 hok;have ha2:=ha.right;rw [Array.length_toList,show (bX (some (aZ xs))).cps.size=24 from ir _] at ha2;obtain ⟨e1,e2⟩:=uD ha2;obtain ⟨t0,t1⟩:=lD (k:=2 ^ 30) (by decide) hab;have hw:aL (bu (xs.map (above (aZ xs)))).toNat<=30:=hV (by omega);have hv:=λ i a e=>mH e2 i a e;have htl:=λ m h=>yD (ns:=xs.map (above (aZ xs))) (m:=m) h;generalize aL (bu (xs.map (above (aZ xs)))).toNat=wd at q e1 e2 hw hv htl;refine ⟨_,(ao (aI (i:=2) sc_read_base.nd rfl (Or.inr rfl) (au cF (bJ (pv 0) T.cf cY cT (hr.mono (by decide)) cU .nil cx (aa (bo T.fW) ae)) (bo T.ko)))
  (ao (aI (i:=3) sc_read_base.nd rfl (Or.inr rfl) (bJ (pv 0) T.cf cY cT (hr.mono (by decide)) cU .nil cx (aa (bo T.jm) ae)))
  (ao (iZ (i:=4) sc_read_base.nd rfl (Or.inl rfl) (N:=["place", "width", "reader"]) (fr:=[none,some 3,some 0]) ⟨rfl,rfl,rfl,rfl,rfl,rfl⟩ rfl (eG (by rfl) T.dA (aa (pv 1) ae))
    (λ C fp s H=>⟨aU (i:=0) zfe rfl (Or.inl rfl),bZ,(bJ (pv 2) T.cf cY cT (hr.mono (by decide)) cU .nil cx (aa (pv 1) ae))⟩))
  (am (aC (cL (N:=["number", "least"]) (fr:=[none,some 2]) ⟨rfl,rfl,rfl,rfl,rfl,rfl⟩ rfl (cH (pv 4))
    (λ C fp s H=>⟨aU (i:=0) zfd rfl (Or.inl rfl),bZ,(dB (aQ c6 (pv 0) aq (aP _)) bx (au cF (au bv (pv 1) (pv 0)) aq))⟩))))))),?_⟩
  obtain ⟨dx,hR⟩:=id R;refine ⟨_,rfl,r,dx,_,rfl,hR,rfl,tk1 (eJ (k:=24) R hb hz (by decide) ha.left (mZ hlo) λ H1 k1 R1=>?_)⟩;have ec:((fo (some (aZ xs)):Nat):Int) - 4000001=aZ xs:=by
   show (((aZ xs+4000001).toNat:Nat):Int) - 4000001=_;omega
  obtain ⟨dx1,hR1⟩:=id R1;refine ⟨_,_,rfl,rfl,_,rfl,r,dx1,_,rfl,hR1,rfl,tk1 (eJ (k:=5) R1 hb hz (by decide) e1 (show wd < 2 ^ 5 by omega) λ H2 k2 R2=>?_)⟩;refine ⟨_,rfl,_,rfl,by omega,by omega,?_⟩;rw [Int.toNat_natCast];refine ⟨gQ (λ i acc H'=>Kp r H2 H'/\RdAt t.aX H' r X (n+24+5+wd * i)/\acc=((xs.map (above (aZ xs))).take i).map V.int) ⟨Kp.refl _ _,R2,rfl⟩ (λ i acc H' hi hp=>by rw [hp.2.2,aj,bc];omega) (Nat.le_of_lt (br (by omega))) ?_ ?_⟩
  ·rintro i acc H3 hi ⟨k3,R3,rfl⟩;obtain ⟨dx3,hR3⟩:=id R3;have ex:(xs.map (above (aZ xs)))[i]?=some (above (aZ xs) (at' xs i)):=by rw [aH,getD_at' hi];rfl
   have hmem:=aS ex;obtain ⟨n0,_⟩:=hab _ hmem;refine ⟨Wk.set rfl,tT ⟨_,rfl,r,dx3,_,rfl,hR3,rfl,tkv rfl (eJ (k:=wd) R3 hb hz (by omega) (hv i _ ex) (htl _ hmem) λ H4 k4 R4=>cw hi ⟨k3.trans k4,?_,?_⟩)⟩⟩
   ·rw [Nat.mul_succ,← Nat.add_assoc];exact R4
   ·rw [List.take_add_one,ex,aJ,Int.toNat_of_nonneg n0];rfl
  ·rintro acc H3 ⟨k3,R3,rfl⟩ ln hln;have ell:(xs.map (above (aZ xs))).take xs.length=xs.map (above (aZ xs)):=List.take_of_length_le (by rw [aj];exact Nat.le_refl _);rw [ell];have k4:=k3.new (o:=.lst ((xs.map (above (aZ xs))).map V.int)) hln;have R4:=R3.new (o:=.lst ((xs.map (above (aZ xs))).map V.int)) hln;have h4:(upd H3 ln (.lst ((xs.map (above (aZ xs))).map V.int))) ln=some (.lst ((xs.map (above (aZ xs))).map V.int)):=ah;generalize upd H3 ln (.lst ((xs.map (above (aZ xs))).map V.int))=H4 at k4 R4 h4;refine ⟨_,rfl,ln,rfl,⟨_,SqL.of h4⟩,⟨de (xs:=(xs.map (above (aZ xs))).map V.int) (λ i acc H'=>Same H4 H'/\acc=(xs.take i).map ov) ⟨Same.refl _,rfl⟩ ?_ ?_ ?_ ?_⟩⟩
   ·rintro i acc H5 hi ⟨s5,rfl⟩;refine ⟨SqL.of (s5 _ _ h4),?_⟩;rw [aj,bc];omega
   ·rw [aj,aj];exact Nat.le_of_lt (br (by omega))
   ·rintro i y acc H5 hx hlt ⟨s5,rfl⟩;have hlt':i < xs.length:=by rwa [aj,aj] at hlt
    rw [aH,aH,getD_at' hlt'] at hx;cases hx;have hmx:at' xs i∈xs:=aS (getD_at' hlt');refine ⟨Wk.set rfl,tT ⟨_,rfl,rfl,_,rfl,?_⟩⟩;rw [dec_int];cases e:at' xs i with
    | none=>
     refine aE (cw hlt ⟨s5,?_⟩);rw [cN hlt',e,aJ];rfl
    | some z=>
     have hz1:0<=z - aZ xs:=by
      obtain ⟨m,hm⟩:∃ m,cz (be xs)=some m:=by
       cases e2:be xs with
       | nil=>have:=mem_somes.mpr (e ▸ hmx);rw [e2] at this;cases this
       | cons x r=>exact ⟨_,rfl⟩
      have:=iS hm z (mem_somes.mpr (e ▸ hmx));have:aZ xs=m:=by unfold aZ;rw [hm];rfl
      omega
     rw [aK (show ¬ above (aZ xs) (some z)=0 by show ¬ z - aZ xs+1=0;omega)];refine ay ⟨_,rfl,_,rfl,_,_,rfl,rfl,_,_,rfl,rfl,cw hlt ⟨s5,?_⟩⟩;rw [cN hlt',e,aJ,ec];have e3:aZ xs+above (aZ xs) (some z) - 1=z:=by show aZ xs+(z - aZ xs+1) - 1=z;omega
     show List.map ov (List.take i xs)++[V.int (aZ xs+above (aZ xs) (some z) - 1)]=_;rw [e3];rfl
   ·rintro acc H5 ⟨s5,rfl⟩ l hl5;rw [aj,aj,bd];have k5:Kp r H H5:=((k1.trans k2).trans k4).trans (Kp.of s5);have R5:=R4.same s5;refine q l _ (k5.new hl5) (k5.free R5 hl5) ?_ ah;rw [show n+(24+(5+wd * xs.length))=n+24+5+wd * xs.length by omega];exact R5.new hl5
noncomputable def yb:Sp:=λ vs H Q _=>∃ d:Int,vs=[.int (bV d)]/\Q (.int d) H
theorem zi2:aB ["number"] ["number"] (ax qM):=by walk_at "sc"
theorem zgX(F:Fun K "unfolded" "unfolded" qM f fd):FnOk P w K mg base CX0 1 f fd ["number"] yb:=by
 refine F.ok zi2 (λ vs H Q E h=>?_) (λ cdv A outer s H vs Q E hr h=>?_)
 ·obtain ⟨d,rfl,_⟩:=h;rfl
 ·obtain ⟨d,rfl,q⟩:=h;have hb:=zbW d;have hn:=nc d;generalize bV d=m at hb hn;refine ⟨_,(am (aC (dB (aQ c6 (au cE (pv 0) aq) aq (aP _)) (au fE (pv 0) aq) (au cF (dZ d5 (au fE (pv 0) aq)) aq)))),?_⟩;refine ⟨_,rfl,_,_,rfl,rfl,by show (0:Int) < 2;decide,rfl,_,rfl,?_⟩;rw [dec_int];by_cases c:m % 2=0
  ·rw [if_pos c] at hb;rw [aN c];refine aE ⟨_,rfl,_,_,rfl,rfl,⟨by decide,by decide⟩,?_⟩;show Q (.int (m / 2)) H;rw [hb];exact q
  ·rw [if_neg c] at hb;rw [aK c];refine ay ⟨_,rfl,_,_,rfl,rfl,⟨by decide,by decide⟩,_,rfl,_,_,rfl,rfl,?_⟩;show Q (.int (-(m / 2) - 1)) H;rw [hb];exact q
theorem sc_read_steps:aB ["reader", "length", "values", "width", "place"] ["reader", "length"] (ax qB):=by walk_at "sc"
theorem zgG(T:Txt K mg t)(CT:bn P w K mg base (CXr P w) 1 t.aX "take" ["self", "width"] (gG t))(mf:Cal P w K mg base CX0 1 "unfolded" ["number"] yb)(F:Fun K "read_steps" "read_steps" qB f fd):
  FnOk P w K mg base CX0 3 f fd ["reader", "length"] (fJ t 4):=by
 obtain ⟨jk,jl,cT,cY,cU⟩:=CT;refine F.ok sc_read_steps (λ vs H Q E h=>?_) (λ cdv A outer s H vs Q E hr h=>?_)
 ·obtain ⟨r,T,n,xs,rfl,_⟩:=h;rfl
 ·obtain ⟨r,X,n,xs,rfl,R,hb,hz,okb,hrm,ha,q⟩:=h;obtain ⟨hok,h100⟩:=fe okb;have h0:=gd okb;have hn:=rm4 hrm;have hlen:(cV 4 xs).length=24+(5+aL (bu (stp xs xs.length)).toNat * (stp xs xs.length).length):=zjh xs;rw [hlen] at q;have ha:At X.cps.toList n ((bX (at' xs 0)).cps.toList++(dI (stp xs xs.length)).cps.toList):=by
   have e:(cV 4 xs).cps.toList=(bX (at' xs 0)).cps.toList++(dI (stp xs xs.length)).cps.toList:=by
    show (gH xs).cps.toList=_;unfold gH;rw [df]
   rw [← e];exact ha
  have hok0:okV (at' xs 0)=true:=List.all_eq_true.mp hok _ (aS (getD_at' h0));have hs:=jQ hok xs.length;have ha2:=ha.right;rw [Array.length_toList,show (bX (at' xs 0)).cps.size=24 from ir _] at ha2;obtain ⟨e1,e2⟩:=uD ha2;obtain ⟨t0,t1⟩:=lD (k:=2 ^ 30) (by decide) hs;have hw:aL (bu (stp xs xs.length)).toNat<=30:=hV (by omega);have hv:=λ i a e=>mH e2 i a e;have htl:=λ m h=>yD (ns:=stp xs xs.length) (m:=m) h;obtain ⟨N,hN⟩:∃ N,xs.length=N+1:=⟨xs.length - 1,by omega⟩
  have sl:(stp xs xs.length).length=N:=by rw [hN,gI]
  have sg:∀ i,i < N->(stp xs xs.length)[i]?=some (bV ((at' xs (i+1)).getD 0 - (at' xs i).getD 0)):=by
   have key:∀ m i,i < m->(stp xs (m+1))[i]?=some (bV ((at' xs (i+1)).getD 0 - (at' xs i).getD 0)):=by
    intro m;induction m with
    | zero=>intro i hi;omega
    | succ m ih=>
     intro i hi;rw [rP];by_cases c:i < m
     ·rw [List.getElem?_append_left (by rw [gI];exact c)];exact ih i c
     ·have:i=m:=by omega
      subst this;rw [List.getElem?_append_right (by rw [gI];exact Nat.le_refl _),gI,Nat.sub_self];rfl
   intro i hi;rw [hN];exact key N i hi
  rw [sl] at q;generalize aL (bu (stp xs xs.length)).toNat=wd at q e1 e2 hw hv htl;refine ⟨_,(ao (aI (i:=2) sc_read_steps.nd rfl (Or.inl rfl) (bD (aa (au cF (bJ (pv 0) T.cf cY cT (hr.mono (by decide)) cU .nil cx (aa (bo T.fW) ae)) (bo T.ko)) ae)))
  (ao (aI (i:=3) sc_read_steps.nd rfl (Or.inl rfl) (bJ (pv 0) T.cf cY cT (hr.mono (by decide)) cU .nil cx (aa (bo T.jm) ae)))
  (ao (dO PassesOwn.never rfl (eG (by rfl) T.dA (aa (au cF (pv 1) aq) ae)) (aU (i:=4) sc_read_steps.nd rfl (Or.inl rfl))
   (am (bP (bW K PySem.F.plainAttrs_list PySem.F.slot_list_append PySem.F.type_list_append f9 (pv 2) (aa (au bv (bj (bG K) (pv 2) (dZ d5 aq) (λ _ _=>rfl)) (mf.pe hr az (aa (bJ (pv 0) T.cf cY cT (hr.mono (by decide)) cU .nil cx (aa (pv 3) ae)) ae))) ae)))))
  (am (aC (pv 2)))))),?_⟩
  obtain ⟨dx,hR⟩:=id R;refine ⟨_,rfl,r,dx,_,rfl,hR,rfl,tk1 (eJ (k:=24) R hb hz (by decide) ha.left (mZ hok0) λ H1 k1 R1=>?_)⟩;have ec:((fo (at' xs 0):Nat):Int) - 4000001=(at' xs 0).getD 0:=by
   obtain ⟨z,ez⟩:=zjd hn h0;have:=iU (ez ▸ hok0);rw [ez];show (((z+4000001).toNat:Nat):Int) - 4000001=z;omega
  refine ⟨_,_,rfl,rfl,bf rfl,λ l hln=>?_⟩;have h2:(upd H1 l (.lst [V.int (((fo (at' xs 0):Nat):Int) - 4000001)])) l=some (.lst ((xs.take 1).map ov)):=by
   rw [ah,ec,cN h0,← jv hn h0];rfl
  have k2:=k1.new (o:=.lst [V.int (((fo (at' xs 0):Nat):Int) - 4000001)]) hln;have R2:=R1.new (o:=.lst [V.int (((fo (at' xs 0):Nat):Int) - 4000001)]) hln;have hl0:=k1.free R1 hln;have nlr:=ig R1 hln;show cR _ _ _ (upd H1 l (.lst [V.int (((fo (at' xs 0):Nat):Int) - 4000001)])) _;generalize upd H1 l (.lst [V.int (((fo (at' xs 0):Nat):Int) - 4000001)])=H2 at h2 k2 R2;obtain ⟨dx2,hR2⟩:=id R2;refine ⟨_,rfl,r,dx2,_,rfl,hR2,rfl,tk1 (eJ (k:=5) R2 hb hz (by decide) e1 (show wd < 2 ^ 5 by omega) λ H3 k3 R3=>?_)⟩;refine ⟨_,rfl,_,_,rfl,rfl,_,rfl,by omega,by omega,?_⟩;rw [show ((xs.length:Int) - 1).toNat=N by omega];refine ⟨gw (λ i σ H'=>∃ v4:Option V,σ=[some (.ref r),some (.int xs.length),some (.ref l),some (.int wd),v4]/\Kp r H H'/\RdAt t.aX H' r X (n+24+5+wd * i)/\H' l=some (.lst ((xs.take (i+1)).map ov))) ⟨none,rfl,k2.trans k3,R3,k3 l _ nlr h2⟩ ?_ ?_⟩
  ·rintro i σ H4 hi ⟨v4,rfl,k4,R4,h4⟩;obtain ⟨dx4,hR4⟩:=id R4;have hi1:i < xs.length:=by omega
   have hi2:i+1 < xs.length:=by omega
   have ex:=sg i hi;have hmem:=aS ex;obtain ⟨n0,_⟩:=hs _ hmem;have al:atI ((xs.take (i+1)).map ov) (-1)=some (.int ((at' xs i).getD 0)):=by
    rw [cN hi1,aJ,← jv hn hi1];exact sX _ _
   refine ⟨_,rfl,.inl ⟨rfl,_,SqL.of h4⟩,_,rfl,1,rfl,l,_,_,_,rfl,rfl,SqL.of h4,al,?_⟩;refine ⟨_,rfl,r,dx4,_,rfl,hR4,rfl,tkv rfl (eJ (k:=wd) R4 hb hz (by omega) (hv i _ ex) (htl _ hmem) λ H5 k5 R5=>?_)⟩;have h5:=k5 l _ nlr h4;refine ⟨(at' xs (i+1)).getD 0 - (at' xs i).getD 0,?_,_,_,rfl,rfl,l,_,_,rfl,rfl,h5,?_,_,rfl,(k4.trans k5).put hl0,?_,?_⟩
   ·show [V.int (((bV ((at' xs (i+1)).getD 0 - (at' xs i).getD 0)).toNat:Nat):Int)]=_;rw [Int.toNat_of_nonneg n0]
   ·rw [aj,bc];exact br (by omega)
   ·rw [Nat.mul_succ,← Nat.add_assoc];exact R5.put h5
   ·rw [ah,cN hi2,aJ];show some (HO.lst (_++[V.int ((at' xs i).getD 0+((at' xs (i+1)).getD 0 - (at' xs i).getD 0))]))=some (HO.lst (_++[ov (at' xs (i+1))]));rw [jv hn hi2,show (at' xs i).getD 0+((at' xs (i+1)).getD 0 - (at' xs i).getD 0)=(at' xs (i+1)).getD 0 by omega]
  ·rintro σ H4 ⟨v4,rfl,k4,R4,h4⟩;rw [← hN,bd] at h4;refine ⟨_,rfl,q l H4 k4 hl0 ?_ h4⟩;rw [show n+(24+(5+wd * N))=n+24+5+wd * N by omega];exact R4
noncomputable def spR(t:Ad):Str->Sp:=λ x vs H Q E=>∃ j,kindsS[j]?=some x/\fJ t j vs H Q E
theorem zh7{f1 f2 f3 f4 f5:Addr}(hm:mg "READERS" = some (.ref a))(hl:K.lookup a=some ⟨.type "dict", none,.dict es n,#[]⟩)(hk:W.KeysLit w.params es.toList)(n1:W.nsIn K a "plain" = some (some (.ref f1)))(n2:W.nsIn K a "runs" = some (some (.ref f2)))(n3:W.nsIn K a "book" = some (some (.ref f3)))(n4:W.nsIn K a "base" = some (some (.ref f4)))(n5:W.nsIn K a "steps" = some (some (.ref f5)))(g1:mg "read_plain" = some (.ref f1))(g2:mg "read_runs" = some (.ref f2))(g3:mg "read_book" = some (.ref f3))(g4:mg "read_base" = some (.ref f4))(g5:mg "read_steps" = some (.ref f5))(C1:Cal P w K mg base CX0 4 "read_plain" ["reader", "length"] (lv t))(C2:Cal P w K mg base CX0 4 "read_runs" ["reader", "length"] (fJ t 1))(C3:Cal P w K mg base CX0 5 "read_book" ["reader", "length"] (fJ t 2))(C4:Cal P w K mg base CX0 3 "read_base" ["reader", "length"] (fJ t 3))(C5:Cal P w K mg base CX0 3 "read_steps" ["reader", "length"] (fJ t 4)):CalT P w K mg base CX0 5 "READERS" ["reader", "length"] kindsS (spR t):=by
 refine ⟨a,es,n,hm,hl,hk,λ y hy=>?_⟩;obtain ⟨j,hj⟩:=List.getElem?_of_mem hy;have only:∀ {i:Nat},kindsS[i]?=some y->i=j:=λ h=>eZ hU h hj;rcases uJ hj with ⟨rfl,rfl⟩ | ⟨rfl,rfl⟩ | ⟨rfl,rfl⟩ | ⟨rfl,rfl⟩ | ⟨rfl,rfl⟩
 ·obtain ⟨f,fd,G,m,k,b⟩:=C1;cases g1.symm.trans m;exact ⟨_,fd,n1,(G.mono (by decide)).imp (λ vs H Q E ⟨i,hi,h⟩=>by cases only hi;exact zh6 h),k,b⟩
 ·obtain ⟨f,fd,G,m,k,b⟩:=C2;cases g2.symm.trans m;exact ⟨_,fd,n2,(G.mono (by decide)).imp (λ vs H Q E ⟨i,hi,h⟩=>by cases only hi;exact h),k,b⟩
 ·obtain ⟨f,fd,G,m,k,b⟩:=C3;cases g3.symm.trans m;exact ⟨_,fd,n3,G.imp (λ vs H Q E ⟨i,hi,h⟩=>by cases only hi;exact h),k,b⟩
 ·obtain ⟨f,fd,G,m,k,b⟩:=C4;cases g4.symm.trans m;exact ⟨_,fd,n4,(G.mono (by decide)).imp (λ vs H Q E ⟨i,hi,h⟩=>by cases only hi;exact h),k,b⟩
 ·obtain ⟨f,fd,G,m,k,b⟩:=C5;cases g5.symm.trans m;exact ⟨_,fd,n5,(G.mono (by decide)).imp (λ vs H Q E ⟨i,hi,h⟩=>by cases only hi;exact h),k,b⟩
theorem fS{a b:Str}(ha:bw a.cps.toList)(hb:bw b.cps.toList):bw (a++b).cps.toList:=λ c hc=>by
 rw [df] at hc;rcases al_mp.mp hc with h | h
 ·exact ha c h
 ·exact hb c h
theorem zaN{l:List Str}(h:∀ s∈l,bw s.cps.toList):bw (bi l).cps.toList:=λ c hc=>by
 rw [eX] at hc;obtain ⟨s,hs,hc⟩:=List.mem_flatten.mp hc;obtain ⟨z,hz,rfl⟩:=List.mem_map.mp hs;exact h z hz c hc
theorem iK{f:α->Str}{l:List α}(h:∀ a,bw (f a).cps.toList):bw (bi (l.map f)).cps.toList:=zaN λ s hs=>by
 obtain ⟨a,_,rfl⟩:=List.mem_map.mp hs;exact h a
theorem eA(n k:Nat):bw (bR n k).cps.toList:=tH n k
theorem tK(ns:List Int):bw (dI ns).cps.toList:=fS (eA _ _) (iK λ _=>eA _ _)
theorem zaM(j:Nat)(xs:List OI):bw (cV j xs).cps.toList:=by
 match j with
 | 0=>exact iK (f:=bX) λ _=>eA _ _
 | 1=>exact fS (eA _ _) (iK (f:=c5) λ _=>fS (eA _ _) (eA _ _))
 | 2=>exact fS (fS (eA _ _) (iK (f:=bX) λ _=>eA _ _)) (iK (f:=fh (av xs).book) λ _=>eA _ _)
 | 3=>exact fS (eA _ _) (tK _)
 | j+4=>exact fS (eA _ _) (tK _)
theorem zaP(j:Nat)(xs:List OI):bw (c7 j xs).cps.toList:=fS (fS (eA _ _) (eA _ _)) (zaM j xs)
noncomputable abbrev Blk:=Nat × List OI
noncomputable def okK(b:Blk):Prop:=okB b.2=true/\b.1 < 5/\rm b.2 b.1≠.none
noncomputable def bL(b:Blk):Str:=c7 b.1 b.2
theorem sY{α:Type}(f:α->Str):∀ (l:List α) (i:Nat) (a:α),l[i]?=some a->At (bi (l.map f)).cps.toList (bi ((l.take i).map f)).length (f a).cps.toList
 | b::r,0,a,e=>by
  cases e;refine ⟨[],(bi (r.map f)).cps.toList,?_,rfl⟩;rw [List.map_cons,kq,df];rfl
 | b::r,i+1,a,e=>by
  obtain ⟨pre,post,h1,h2⟩:=sY f r i a e;refine ⟨(f b).cps.toList++pre,post,?_,?_⟩
  ·rw [List.map_cons,kq,df,h1,List.append_assoc]
  ·rw [List.take_succ_cons,List.map_cons,kq,cM,aO,h2,Array.length_toList];rfl
noncomputable def xX(t:Ad):Sp:=λ vs H Q _=>∃ (r:Addr) (X:Str) (n:Nat) (b:Blk),vs=[.ref r]/\RdAt t.aX H r X n/\bw X.cps.toList/\X.length<=16777216/\okK b/\At X.cps.toList n (bL b).cps.toList/\
 ∀ (a l:Addr) (H':Hp),Kp r H H'->H a=none->H l=none->H' a=some (.tup [.str (kindsS.getD b.1 ""),.ref l])->H' l=some (.lst (b.2.map ov))->RdAt t.aX H' r X (n+(bL b).length)->Q (.ref a) H'
theorem sc_read_block:aB ["reader", "begin", "number", "kind", "length", "values"] ["reader"] (ax qx):=by walk_at "sc"
theorem zgC(T:Txt K mg t)(CT:bn P w K mg base (CXr P w) 1 t.aX "take" ["self", "width"] (gG t))(CS:bn P w K mg base CX0 1 t.aX "taken_since" ["self", "place"] (x9 t))(lI:CalT P w K mg base CX0 5 "READERS" ["reader", "length"] kindsS (spR t))(jV:Cal P w K mg base CX0 4 "is_block" ["values"] (rB K))(iD:Cal P w K mg base (CXr P w) 7 "packed" ["kind", "values"] (rF K t))(F:Fun K "read_block" "read_block" qx f fd):FnOk P w K mg base CX0 8 f fd ["reader"] (xX t):=by
 obtain ⟨jk,jl,cT,cY,cU⟩:=CT;obtain ⟨zkR,zk9,zY,zek,zaD⟩:=CS;refine F.ok sc_read_block (λ vs H Q E h=>?_) (λ cdv A outer s H vs Q E hr h=>?_)
 ·obtain ⟨r,T,n,b,rfl,_⟩:=h;rfl
 ·obtain ⟨r,X,n,⟨j,xs⟩,rfl,R,hb,hz,⟨okb,hj5,hrm⟩,ha,q⟩:=h;have okb:okB xs=true:=okb;have hj5:j < 5:=hj5;have hrm:rm xs j≠.none:=hrm;have ha:At X.cps.toList n (c7 j xs).cps.toList:=ha;obtain ⟨hok,h100⟩:=fe okb;have h0:=gd okb;have hj:kindsS[j]?=some (kindsS.getD j ""):=by
   have h:j < kindsS.length:=hj5;simp [List.getD,h]
  have q:∀ (a l:Addr) (H':Hp),Kp r H H'->H a=none->H l=none->H' a=some (.tup [.str (kindsS.getD j ""),.ref l])->H' l=some (.lst (xs.map ov))->RdAt t.aX H' r X (n+(c7 j xs).length)->Q (.ref a) H':=q;generalize kindsS.getD j "" = x at hj q;have hcut:=ha.cut;have hle:=ha.le;rw [Array.length_toList] at hcut;rw [Array.length_toList,Array.length_toList] at hle;have hle:n+(c7 j xs).length<=X.length:=hle;have hpl:(c7 j xs).length=11+(cV j xs).length:=by
   unfold c7;rw [cM,cM,cc,cc]
  have ha:At X.cps.toList n (bQ j 3++(bQ (xs.length - 1) 8++(cV j xs).cps.toList)):=by
   have e:(c7 j xs).cps.toList=bQ j 3++(bQ (xs.length - 1) 8++(cV j xs).cps.toList):=by
    unfold c7;rw [df,df,List.append_assoc];rfl
   rw [← e];exact ha
  have ha2:=ha.right;rw [eT] at ha2;have ha3:=ha2.right;rw [eT] at ha3;refine ⟨_,(ao (aI (i:=1) sc_read_block.nd rfl (Or.inl rfl) (bC K (pv 0) rfl))
  (ao (aI (i:=2) sc_read_block.nd rfl (Or.inl rfl) (bJ (pv 0) T.cf cY cT (hr.mono (by decide)) cU .nil cx (aa (bo T.nv) ae)))
  (ao (a8 (aQ oy (pv 2) (aR (cJ K) (by rfl) T.bH PyProof.Rows.Boot.«len» (aa (dN T.iN) ae)) (aP _)) oO
   bq)
  (ao (aI (i:=3) sc_read_block.nd rfl (Or.inl rfl) (bj (fY K) (dN T.iN) (pv 2) (λ _ _=>rfl)))
  (ao (aI (i:=4) sc_read_block.nd rfl (Or.inl rfl) (au bv (bJ (pv 0) T.cf cY cT (hr.mono (by decide)) cU .nil cx (aa (bo T.nw) ae)) aq))
  (ao (aI (i:=5) sc_read_block.nd rfl (Or.inl rfl) (lI.pe hr az (pv 3) (aa (pv 0) (aa (pv 4) ae))))
  (ao (a8 (PW.pt (hZ (fG (fg (jV.pe hr az (aa (pv 5) ae)))) (ie (aQ dY (iD.pe hr cx (aa (pv 3) (aa (pv 5) ae))) (bJ (pv 0) T.cf zek zY (hr.mono (by decide)) zaD .nil az (aa (pv 1) ae)) (aP _))))) oO
   bq)
  (am (aC (gh (aa (pv 3) (aa (pv 5) ae)))))))))))),?_⟩
  obtain ⟨dx,hR⟩:=id R;refine ⟨_,rfl,r,_,dx,_,_,rfl,hR,T.cf,T.gN,rfl,?_⟩;refine ⟨_,rfl,r,dx,_,rfl,hR,rfl,tk1 (eJ (k:=3) R hb hz (by decide) ha.left (show j < 2 ^ 3 by omega) λ H1 k1 R1=>?_)⟩;refine ⟨_,rfl,t.eS,kindsV,rfl,.inr (T.iR _),_,_,rfl,rfl,_,rfl,?_⟩;rw [aK (show ¬ ((kindsV.length:Nat):Int)<=(j:Int) by show ¬ (5:Int)<=(j:Int);omega)];refine ay ?_;have atk:atI kindsV (j:Int)=some (.str x):=dU (by unfold kindsV;rw [aH,hj];rfl);refine ⟨_,rfl,t.eS,kindsV,_,_,rfl,rfl,T.iR _,atk,?_⟩;obtain ⟨dx1,hR1⟩:=id R1;refine ⟨_,rfl,r,dx1,_,rfl,hR1,rfl,tk1 (eJ (k:=8) R1 hb hz (by decide) ha2.left (show xs.length - 1 < 2 ^ 8 by omega) λ H2 k2 R2=>?_)⟩;have el:((xs.length - 1:Nat):Int)+1=(xs.length:Int):=by omega
  refine ⟨_,_,rfl,rfl,_,rfl,x,rfl,aS hj,_,rfl,_,rfl,j,hj,r,X,n+3+8,xs,?_,R2,hb,hz,okb,hrm,ha3,λ l H3 k3 hl3 R3 h3=>?_⟩
  ·show [V.ref r,V.int (((xs.length - 1:Nat):Int)+1)]=_;rw [el]
  have k13:=(k1.trans k2).trans k3;have hl0:=(k1.trans k2).free R2 hl3;have nlr:=ig R2 hl3;refine ⟨_,rfl,l,xs,rfl,SqL.of h3,by omega,λ H4 s4=>⟨_,rfl,?_⟩⟩;rw [okb];refine ay ?_;have R4:=R3.same s4;have h4:=s4 _ _ h3;refine ⟨_,rfl,_,rfl,l,xs,x,rfl,SqL.of h4,by omega,λ z=>(by rw [okb] at z;cases z),λ _ z=>absurd (aS hj) z,λ _ i hi z=>?_,λ _ i hi _ H5 s5=>?_⟩
  ·cases eZ hU hi hj;exact absurd z hrm
  cases eZ hU hi hj;have R5:=R4.same s5;obtain ⟨dx5,hR5⟩:=id R5;have e5:n+3+8+(cV j xs).length=n+(c7 j xs).length:=by rw [hpl];omega
  rw [e5] at R5;refine ⟨_,rfl,r,dx5,_,rfl,hR5,rfl,_,rfl,r,X,n,n+(c7 j xs).length,rfl,R5,hz,by omega,hle,?_⟩;have ecut:(⟨((X.cps.toList.drop n).take (n+(c7 j xs).length - n)).toArray⟩:Str)=c7 j xs:=by
   apply i6;show (X.cps.toList.drop n).take (n+(c7 j xs).length - n)=_;rw [Nat.add_sub_cancel_left];exact hcut
  rw [ecut];refine ⟨rfl,_,rfl,?_⟩;rw [dE];refine ay ?_;refine ⟨_,rfl,_,rfl,(show 2<=sizeLine by decide),λ a ha'=>?_⟩;have k5:=(k13.trans (Kp.of s4)).trans (Kp.of (r:=r) s5);have h5:=s5 _ _ h4;refine q a l _ (k5.new ha') (k5.free R5 ha') hl0 ah ?_ (R5.new ha');rw [ag (aF h5 ha')];exact h5
noncomputable def sQ(H0 H:Hp)(l:Addr)(bl:List Blk):Prop:=∃ as:List (Addr × Addr),H l=some (.lst (as.map λ a=>V.ref a.1))/\as.length=bl.length/\(∀ (i:Nat) (a:Addr × Addr) (b:Blk),as[i]?=some a->bl[i]?=some b->H a.1=some (.tup [.str (kindsS.getD b.1 ""),.ref a.2])/\H a.2=some (.lst (b.2.map ov)))/\
 ∀ a∈as,H0 a.1=none/\H0 a.2=none
noncomputable def yc:Sp:=λ vs H Q _=>∃ bl:List Blk,vs=[.str (bi (bl.map bL))]/\(∀ b∈bl,okK b)/\(bi (bl.map bL)).length<=16777216/\
 ∀ (l:Addr) (H':Hp),Same H H'->H l=none->sQ H H' l bl->Q (.ref l) H'
theorem tP(b:Blk):0 < (bL b).length:=by
 unfold bL c7;rw [cM,cM,cc];omega
theorem nC{bl:List Blk}{b:Blk}(h:bl[i]?=some b):(bi ((bl.take (i+1)).map bL)).length=(bi ((bl.take i).map bL)).length+(bL b).length:=by
 rw [List.take_add_one,h];show (bi ((bl.take i++[b]).map bL)).length=_;rw [aJ,zce,cM]
 congr 1
 show (bi [bL b]).length=_;rw [kq,cM];rfl
theorem sc_unpacked:aB ["bits", "reader", "blocks"] ["bits"] (ax qN):=by walk_at "sc"
theorem zgY(T:Txt K mg t)(CI:fM P w K mg base (CXr P w) 1 t.aX ["self", "text"] (xo t))(CH:bn P w K mg base CX0 1 t.aX "has_more" ["self"] (xF t))(l7:Cal P w K mg base CX0 8 "read_block" ["reader"] (xX t))(F:Fun K "unpacked" "unpacked" qN f fd):FnOk P w K mg base CX0 9 f fd ["bits"] yc:=by
 obtain ⟨zkE,zkW,zM,zd8,zar⟩:=CI;obtain ⟨zkL,zk3,zT,zef,zay⟩:=CH;refine F.ok sc_unpacked (λ vs H Q E h=>?_) (λ cdv A outer s H vs Q E hr h=>?_)
 ·obtain ⟨bl,rfl,_⟩:=h;rfl
 ·obtain ⟨bl,rfl,hbl,hz,q⟩:=h;have hb:bw (bi (bl.map bL)).cps.toList:=iK (f:=bL) λ b=>zaP _ _;have hat:=sY bL bl;have htot:bi ((bl.take bl.length).map bL)=bi (bl.map bL):=by rw [bd]
  generalize hX:bi (bl.map bL)=X at hb hat hz htot;refine ⟨_,(ao (aI (i:=1) sc_unpacked.nd rfl (Or.inl rfl) (jy zd8 zM (hr.mono (by decide)) rfl T.zb2 zar .nil cx (aa (pv 0) ae)))
  (ao (aI (i:=2) sc_unpacked.nd rfl (Or.inl rfl) (bD ae))
  (ao (oN PassesOwn.never (fg (c8 (pv 1) T.cf zef zT (hr.mono (by decide)) zay .nil az))
   (am (bP (bW K PySem.F.plainAttrs_list PySem.F.slot_list_append PySem.F.type_list_append f9 (pv 2) (aa (l7.pe hr az (aa (pv 1) ae)) ae)))))
  (am (aC (pv 2)))))),?_⟩
  refine ⟨_,rfl,λ r dx nr ndx nex=>?_⟩;refine ⟨r,dx,X,rfl,ah,hz,λ _ H1 R1 kp=>⟨rfl,?_⟩,λ z=>absurd hb z⟩;have s1:Same H H1:=λ b o e=>by
   rw [kp b (aF e nr),ag (aF e nr),ag (aF e ndx)];exact e
  refine ⟨bf rfl,λ l hln=>?_⟩;have R2:=R1.new (o:=.lst []) hln;have s2:Same H (upd H1 l (.lst [])):=aM s1 hln;have h2:(upd H1 l (.lst [])) l=some (.lst (([]:List (Addr × Addr)).map λ a=>V.ref a.1)):=ah;have hl0:=s1.free hln;have nlr:=ig R1 hln;show cR _ _ _ (upd H1 l (.lst [])) _;generalize upd H1 l (.lst [])=H2 at R2 s2 h2;refine r6 (λ σ H'=>σ=[some (.str X),some (.ref r),some (.ref l)]/\Same H H'/\∃ i,i<=bl.length/\RdAt t.aX H' r X (bi ((bl.take i).map bL)).length/\sQ H H' l (bl.take i))
   (λ _ H'=>match H' r with | some (.ins _ _ [_,(_,.int n)])=>X.length - n.toNat | _=>0) ⟨rfl,s2,0,Nat.zero_le _,R2,[],h2,rfl,λ i a b e=>(by cases e),λ a h=>(by cases h)⟩ ?_
  rintro m σ H3 hm ⟨rfl,s3,i,hi,R3,P3⟩;obtain ⟨dx3,hR3⟩:=id R3;have hm:m=X.length - (bi ((bl.take i).map bL)).length:=by rw [hm,hR3];simp [oP]
  refine ⟨_,rfl,r,dx3,_,rfl,hR3,rfl,r,X,_,rfl,R3,hz,_,rfl,?_⟩;by_cases c:i < bl.length
  ·have ex:bl[i]?=some bl[i]:=aA c;have ha:=hat i _ ex;have hle:=ha.le;rw [Array.length_toList,Array.length_toList] at hle;have hpos:=tP bl[i];rw [aN (show (bi ((bl.take i).map bL)).length < X.length by
    have:(bi ((bl.take i).map bL)).length+(bL bl[i]).length<=X.length:=hle;omega)]
   refine aE ⟨_,wN,?_⟩;obtain ⟨as,p1,p2,p3,p4⟩:=P3;have p2:as.length=i:=by rw [p2,bc];omega
   refine ⟨_,rfl,.inl ⟨rfl,_,SqL.of p1⟩,_,rfl,r,X,_,bl[i],rfl,R3,hb,hz,hbl _ (List.getElem_mem c),ha,λ a l' H4 k4 ha0 hl'0 h4 h4' R4=>?_⟩;have hl4:=k4 l _ nlr p1;have al:a≠l:=λ z=>by rw [z,p1] at ha0;cases ha0
   have ll:l'≠l:=λ z=>by rw [z,p1] at hl'0;cases hl'0
   have R5:=R4.put (o:=.lst (as.map (λ a=>V.ref a.1)++[.ref a])) hl4;rw [← nC ex] at R5;have hlt:(bL bl[i]).length+(bi ((bl.take i).map bL)).length<=X.length:=by
    have:(bi ((bl.take i).map bL)).length+(bL bl[i]).length<=X.length:=hle;omega
   have hnew:=nC ex;have nrH:H r=none:=nr;refine ⟨l,_,_,rfl,rfl,hl4,?_,⟨rfl,λ b o e=>?_,i+1,by omega,R5,as++[(a,l')],?_,?_,λ k z b e1 e2=>?_,λ z hz'=>?_⟩,?_⟩
   ·rw [aj];have:i < X.length:=by
     have key:∀ k,k<=bl.length->k<=(bi ((bl.take k).map bL)).length:=by
      intro k;induction k with
      | zero=>intro _;exact Nat.zero_le _
      | succ k ih=>
       intro hk;have e:bl[k]?=some bl[k]:=aA (by omega);rw [nC e];have:=ih (by omega);have:=tP bl[k];omega
     have:=key (i+1) (by omega);rw [hnew] at this;omega
    rw [sizeLine_eq];omega
   ·have hbr:b≠r:=aF e nrH;rw [ag (aF e hl0)];exact k4 b o hbr (s3 b o e)
   ·rw [ah,aJ];rfl
   ·rw [aO,bc,p2,cn];omega
   ·by_cases hk:k < as.length
    ·rw [List.getElem?_append_left hk] at e1;have e2':(bl.take i)[k]?=some b:=by
      rw [List.getElem?_take] at e2 ⊢;rw [if_pos (by omega)] at e2 ⊢;exact e2
     obtain ⟨z1,z2⟩:=p3 k z b e1 e2';have n1:z.1≠r:=λ y=>by rw [y,hR3] at z1;cases z1
     have n2:z.2≠r:=λ y=>by rw [y,hR3] at z2;cases z2
     have n3:z.1≠l:=λ y=>by rw [y,p1] at z1;cases z1
     refine ⟨?_,?_⟩
     ·rw [ag n3];exact k4 _ _ n1 z1
     ·by_cases y:z.2=l
      ·rw [y,p1] at z2;have e3:as.map (λ a=>V.ref a.1)=b.2.map ov:=HO.lst.inj (Option.some.inj z2);obtain ⟨hb1,_,_⟩:=hbl b (aS (show bl[k]?=some b by rw [List.getElem?_take,if_pos (by omega)] at e2';exact e2'));have hb0:=gd hb1;obtain ⟨v,tl,hv⟩:∃ v tl,b.2=v::tl:=List.exists_cons_of_length_pos hb0;rw [hv] at e3;cases as with
       | nil=>cases e3
       | cons a0 ar=>
        have:=(List.cons.inj e3).1;cases v <;> cases this
      ·rw [ag y];exact k4 _ _ n2 z2
    ·rw [List.getElem?_append_right (by omega)] at e1;have hk0:k - as.length=0:=by
      have:=(al_gs.mp e1).1;simp at this;omega
     rw [hk0] at e1;cases e1;have hki:k=i:=by
      have:=(al_gs.mp e2).1;rw [bc] at this;omega
     subst hki;rw [List.getElem?_take,if_pos (by omega),ex] at e2;cases e2;refine ⟨?_,?_⟩
     ·show (upd H4 l _) a=_;rw [ag al];exact h4
     ·show (upd H4 l _) l'=_;rw [ag ll];exact h4'
   ·rcases al_mp.mp hz' with hz' | hz'
    ·exact p4 z hz'
    ·rw [al_mi.mp hz'];exact ⟨s3.free ha0,s3.free hl'0⟩
   ·obtain ⟨dx5,hR5⟩:=R5;show (match (upd H4 l _) r with | some (.ins _ _ [_,(_,.int n)])=>X.length - n.toNat | _=>0) < m;rw [hR5];show X.length - (((bi ((bl.take (i+1)).map bL)).length:Nat):Int).toNat < m;rw [Int.toNat_natCast,hm,hnew];omega
  ·have hi':i=bl.length:=by omega
   subst hi';rw [htot,aK (by omega)];refine ay ?_;rw [bd] at P3;exact ⟨_,rfl,q l H3 s3 hl0 P3⟩
theorem tO(xs:List OI):∀ (b:Nat) (l:List Nat),Ris xs.length b l->(cP xs b l).flatten=xs.drop b
 | b,[],h=>by
  have:b=xs.length:=h;subst this;rw [List.drop_length];rfl
 | b,e::r,h=>by
  have:=h.1;rw [cP,List.flatten_cons,tO xs e r h.2];have e1:xs.drop e=(xs.drop b).drop (e - b):=by rw [List.drop_drop];congr 1;omega
  rw [e1,List.take_append_drop]
noncomputable def gt(xs:List OI):List Blk:=(cP xs 0 (cW xs xs.length)).map λ b=>(cD b,b)
theorem uf(xs:List OI):bi ((gt xs).map bL)=fK xs:=by
 unfold gt fK;rw [List.map_map];rfl
theorem za9(xs:List OI):((gt xs).map (·.2)).flatten=xs:=by
 unfold gt;rw [List.map_map];have:(cP xs 0 (cW xs xs.length)).map ((·.2) ∘ λ b=>((cD b,b):Blk))=cP xs 0 (cW xs xs.length):=List.map_id _;rw [this,tO xs 0 _ (m9 xs xs.length)];rfl
theorem tQ(ok:okC xs=true){b:List OI}(h:b∈cP xs 0 (cW xs xs.length)):okB b=true:=by
 obtain ⟨i,hi⟩:=List.getElem?_of_mem h;have hl:=ge ok;have hie:i < (cW xs xs.length).length:=by
  have:=(al_gs.mp hi).1
  rwa [iL] at this
 rw [ka xs 0 _ i hie] at hi;cases hi;obtain ⟨r1,r2⟩:=(m9 xs xs.length).at i hie;exact mV (kN ok) (by omega) r1 r2
theorem zbb(ok:okC xs=true):∀ b∈gt xs,okK b:=λ b hb=>by
 obtain ⟨c,hc,rfl⟩:=List.mem_map.mp hb;obtain ⟨b5,brm⟩:=mS c;exact ⟨tQ ok hc,b5,by show rm c (cD c)≠none;rw [brm];intro z;cases z⟩
theorem zba(xs:List OI):(gt xs).length<=xs.length:=by
 unfold gt;rw [aj,iL];exact m7 xs xs.length
theorem zjN(ok:okC xs=true):(fK xs).length<=16777216:=by
 have hl:=ge ok;have h64:=u9 (l:=(cP xs 0 (cW xs xs.length)).map fR) (k:=200011) λ s hs=>by
  obtain ⟨b,hb,rfl⟩:=List.mem_map.mp hs;obtain ⟨x1,x2⟩:=fe (tQ ok hb);exact tu (by omega) x1
 rw [aj,iL] at h64;have:=m7 xs xs.length;have:200011 * (cW xs xs.length).length<=200011 * 64:=Nat.mul_le_mul_left _ (by omega);unfold fK;rw [fz];omega
noncomputable def rn(t:Ad):Sp:=λ vs H Q E=>∃ r n:Int,vs=[.int r,.int n]/\(0<=r/\r < n->Q .non H)/\(¬ (0<=r/\r < n)->E (.ref t.bU) none H)
theorem ziH:aB ["row", "size"] ["row", "size"] (ax pV):=by walk_at "sc"
theorem zf1(T:Txt K mg t)(F:Fun K "check_row" "check_row" pV f fd):FnOk P w K mg base (CXr P w) 1 f fd ["row", "size"] (rn t):=by
 refine F.okX ziH (λ vs H Q E h=>?_) (λ cdv A outer s H vs Q E hr h=>?_)
 ·obtain ⟨r,n,rfl,_⟩:=h;rfl
 ·obtain ⟨r,n,rfl,k1,k2⟩:=h;refine ⟨_,(am (a8 (fG (wL ff oz aq (pv 0) (pv 1))) (am (dP dR T.yM rfl (by rfl) T.nq (aa aD ae)))
   bq)),?_⟩
  refine ⟨_,rfl,_,_,rfl,rfl,_,rfl,?_⟩;by_cases h1:0<=r
  ·rw [aN h1];refine aE ⟨_,rfl,_,_,rfl,rfl,_,rfl,?_⟩;by_cases h2:r < n
   ·rw [aN h2];exact ay (k1 ⟨h1,h2⟩)
   ·rw [aK h2];exact aE ⟨by show 1<=sizeLine;decide,k2 λ z=>h2 z.2⟩
  ·rw [aK h1];refine ay ⟨_,rfl,?_⟩;exact aE ⟨by show 1<=sizeLine;decide,k2 λ z=>h1 z.1⟩
noncomputable def ye:Sp:=λ vs H Q _=>∃ bl:List Blk,vs=[.str (bi (bl.map bL))]/\(∀ b∈bl,okK b)/\(bi (bl.map bL)).length<=16777216/\bl.length<=1000/\
 ∀ (l:Addr) (H':Hp),Same H H'->H l=none->H' l=some (.lst ((bl.map (·.2)).flatten.map ov))->Q (.ref l) H'
theorem uN:∀ (bl:List Blk),(∀ b∈bl,okK b)->((bl.map (·.2)).flatten).length<=100 * bl.length
 | [],_=>Nat.le_refl _
 | b::r,h=>by
  have:=uN r λ c hc=>h c (bp _ hc);have h2:=(fe (h b bB).1).2;rw [List.map_cons,List.flatten_cons,aO,List.length_cons];omega
theorem sc_values_in:aB ["bits", "values", "kind", "block"] ["bits"] (ax qP):=by walk_at "sc"
theorem zg2(T:Txt K mg t)(mh:Cal P w K mg base CX0 9 "unpacked" ["bits"] yc)(F:Fun K "values_in" "values_in" qP f fd):FnOk P w K mg base CX0 10 f fd ["bits"] ye:=by
 refine F.ok sc_values_in (λ vs H Q E h=>?_) (λ cdv A outer s H vs Q E hr h=>?_)
 ·obtain ⟨bl,rfl,_⟩:=h;rfl
 ·obtain ⟨bl,rfl,hbl,hz,hbl1000,q⟩:=h;have szl:=sizeLine_eq;refine ⟨_,(ao (aI (i:=1) sc_values_in.nd rfl (Or.inl rfl) (bD ae))
  (ao (dO PassesOwn.never rfl (cH (mh.pe hr az (aa (pv 0) ae))) (gE K (n:=2) rfl (dC (aU (i:=2) sc_values_in.nd rfl (Or.inl rfl)) (dC (aU (i:=3) sc_values_in.nd rfl (Or.inl rfl)) gF)))
   (am (bP (bW K PySem.F.plainAttrs_list PySem.F.slot_list_extend PySem.F.type_list_extend vJ (pv 1) (aa (pv 3) ae)))))
  (am (aC (pv 1))))),?_⟩
  refine ⟨bf rfl,λ l hln=>?_⟩;have s1:Same H (upd H l (.lst [])):=Same.new hln;have h1:(upd H l (.lst [])) l=some (.lst []):=ah;show cR _ _ _ (upd H l (.lst [])) _;generalize upd H l (.lst [])=H1 at s1 h1;refine ⟨_,rfl,bl,rfl,hbl,hz,λ lt H2 s2 hlt F2=>?_⟩;obtain ⟨as,a1,a2,a3,a4⟩:=F2;have h2:=s2 _ _ h1;have nlt:l≠lt:=λ z=>by rw [z] at h1;rw [h1] at hlt;cases hlt
  have nl1:∀ a∈as,a.1≠l/\a.2≠l:=λ a ha=>by
   obtain ⟨n1,n2⟩:=a4 a ha;exact ⟨λ z=>(by rw [z,h1] at n1;cases n1),λ z=>(by rw [z,h1] at n2;cases n2)⟩
  refine ⟨lt,rfl,⟨_,SqL.of a1⟩,⟨iM (K:=K) (a:=lt) (xs:=as.map λ a=>V.ref a.1) (λ k σ H'=>∃ v2 v3:Option V,σ=[some (.str (bi (bl.map bL))),some (.ref l),v2,v3]/\(∀ c o,c≠l->H2 c=some o->H' c=some o)/\H' l=some (.lst (((bl.take k).map (·.2)).flatten.map ov)))
   ⟨none,none,rfl,λ c o _ e=>e,h2⟩ (λ k σ H' hk hp=>by obtain ⟨_,_,_,h,_⟩:=hp;exact SqL.of (h _ _ nlt.symm a1)) ?_ ?_⟩⟩
  ·rintro k y σ H3 hy ⟨v2,v3,rfl,k3,g3⟩;have hka:k < as.length:=by
    have:=(al_gs.mp hy).1
    rwa [aj] at this
   rw [aH,aA hka] at hy;cases hy;have ec:bl[k]?=some (bl[k]'(by omega)):=aA (by omega);obtain ⟨z1,z2⟩:=a3 k as[k] _ (aA hka) ec;obtain ⟨n1,n2⟩:=nl1 _ (List.getElem_mem hka);have z1:=k3 _ _ n1 z1;have z2:=k3 _ _ n2 z2;have tk:bl.take (k+1)=bl.take k++[bl[k]'(by omega)]:=by rw [List.take_add_one,ec];rfl
   have fl:=uN (bl.take (k+1)) λ b hb=>hbl b (List.mem_of_mem_take hb);rw [tk,aJ,List.flatten_append,aO,aO,bc] at fl;refine ⟨as[k].1,_,rfl,SqT.of z1,rfl,_,_,rfl,_,_,rfl,rfl,?_⟩;refine ⟨_,rfl,.inl ⟨rfl,_,SqL.of g3⟩,_,rfl,l,as[k].2,_,_,rfl,rfl,g3,z2,?_,_,_,rfl,λ c o hc e=>?_,?_⟩
   ·rw [aj,aj];simp only [List.map_cons,List.map_nil,List.flatten_cons,List.flatten_nil,List.append_nil,cn] at fl;omega
   ·rw [ag hc];exact k3 c o hc e
   ·rw [ah,tk,aJ,List.flatten_append,aJ];simp only [List.map_cons,List.map_nil,List.flatten_cons,List.flatten_nil,List.append_nil]
  ·rintro σ H3 ⟨v2,v3,rfl,k3,g3⟩;rw [aj,a2,bd] at g3;exact ⟨_,rfl,q l H3 (λ b o e=>k3 b o (aF e hln) (s2 _ _ (s1 _ _ e))) hln g3⟩
noncomputable def ColAt(C:Addr)(H:Hp)(c:Addr)(xs:List OI):Prop:=∃ dx,H c=some (.ins C dx [("lying", .str (fK xs))])
theorem ColAt.same(h:ColAt C H c xs)(s:Same H H'):ColAt C H' c xs:=by
 obtain ⟨dx,h⟩:=h;exact ⟨dx,s _ _ h⟩
noncomputable def qZ(K:W.Frag)(t:Ad):Sp:=λ vs H Q E=>∃ (p dx l:Addr) (xs:List OI),vs=[.ref p,.ref l]/\H p=some (.ins t.aW dx [])/\SqL K H l (xs.map ov)/\xs.length<=1000/\
 (okC xs=true->∀ H':Hp,ColAt t.aW H' p xs->Kp p H H'->Q .non H')/\(okC xs=false->∀ H',Same H H'->E (.ref t.cQ) none H')
theorem zih:aB ["self", "values"] ["self", "values"] (ax oV):=by walk_at "sc"
theorem zfB(T:Txt K mg t)(eL:Cal P w K mg base (CXr P w) 9 "tight" ["values"] (jM K t))(F:Fun K "__init__" "Column.__init__" oV f fd):FnOk P w K mg base (CXr P w) 10 f fd ["self", "values"] (qZ K t):=by
 refine F.okX zih (λ vs H Q E h=>?_) (λ cdv A outer s H vs Q E hr h=>?_)
 ·obtain ⟨p,dx,l,xs,rfl,_⟩:=h;rfl
 ·obtain ⟨p,dx,l,xs,rfl,hp,hS,hl,q1,q2⟩:=h;refine ⟨_,(am (cB (pv 0) (eL.pe hr dj (aa (pv 1) ae)) rfl)),?_⟩;refine ⟨_,rfl,l,xs,rfl,hS,hl,λ ok H1 s1=>?_,q2⟩;exact ⟨_,rfl,p,t.aW,dx,_,rfl,s1 _ _ hp,T.dm,T.jb,by show 0 < 1000;decide,q1 ok _ ⟨dx,ah⟩ ((Kp.of s1).trans Kp.own)⟩
noncomputable def jN(t:Ad):Sp:=λ vs H Q _=>∃ (c:Addr) (xs:List OI),vs=[.ref c]/\ColAt t.aW H c xs/\okC xs=true/\∀ (l:Addr) (H':Hp),Same H H'->H l=none->H' l=some (.lst (xs.map ov))->Q (.ref l) H'
theorem zii:aB ["self"] ["self"] (ax oX):=by walk_at "sc"
theorem zgW(T:Txt K mg t)(mi:Cal P w K mg base CX0 10 "values_in" ["bits"] ye)(F:Fun K "told" "Column.told" oX f fd):FnOk P w K mg base CX0 11 f fd ["self"] (jN t):=by
 refine F.ok zii (λ vs H Q E h=>?_) (λ cdv A outer s H vs Q E hr h=>?_)
 ·obtain ⟨c,xs,rfl,_⟩:=h;rfl
 ·obtain ⟨c,xs,rfl,⟨dx,hC⟩,ok,q⟩:=h;have hl:=ge ok;have hcl:=zba xs;refine ⟨_,(am (aC (mi.pe hr az (aa (bC K (pv 0) rfl) ae)))),?_⟩;refine ⟨_,rfl,c,_,dx,_,_,rfl,hC,T.dm,T.jb,rfl,gt xs,?_,zbb ok,by rw [uf];exact zjN ok,by omega,λ l H' s1 hn h1=>?_⟩
  ·rw [uf];rfl
  ·rw [za9] at h1;exact q l H' s1 hn h1
noncomputable def rh(t:Ad):Sp:=λ vs H Q _=>∃ (c:Addr) (xs:List OI),vs=[.ref c]/\ColAt t.aW H c xs/\Q (.str (fK xs)) H
theorem zig:aB ["self"] ["self"] (ax oS):=by walk_at "sc"
theorem zfT(T:Txt K mg t)(F:Fun K "bits" "Column.bits" oS f fd):FnOk P w K mg base CX0 1 f fd ["self"] (rh t):=by
 refine F.ok zig (λ vs H Q E h=>?_) (λ cdv A outer s H vs Q E hr h=>?_)
 ·obtain ⟨c,xs,rfl,_⟩:=h;rfl
 ·obtain ⟨c,xs,rfl,⟨dx,hC⟩,q⟩:=h;refine ⟨_,(am (aC (bC K (pv 0) rfl))),?_⟩;exact ⟨_,rfl,c,_,dx,_,_,rfl,hC,T.dm,T.jb,rfl,q⟩
theorem zc5(xs:List OI)(k:Nat)(o:OI):ci (xs.map ov) k (ov o)=(ci xs k o).map ov:=by
 unfold ci;rw [aJ,List.map_cons,List.map_take,List.map_drop]
theorem zbA(xs:List OI)(k:Nat):(xs.map ov).eraseIdx k=(xs.eraseIdx k).map ov:=by
 rw [List.eraseIdx_eq_take_drop_succ,List.eraseIdx_eq_take_drop_succ,aJ,List.map_take,List.map_drop]
theorem set_map(xs:List OI)(k:Nat)(o:OI):(xs.map ov).set k (ov o)=(xs.set k o).map ov:=by rw [List.map_set]
theorem vh{r:Int}(h0:0<=r)(h1:r < (n:Int)):ixN n r=some r.toNat:=by
 unfold ixN;rw [if_pos h0,if_pos h1]
theorem zfA(h:okC xs=true)(hl:ys.length<=xs.length)(hm:∀ v∈ys,v∈xs):okC ys=true:=by
 have h1:=ge h;have h2:=kN h;refine wn (by omega) (List.all_eq_true.mpr λ v hv=>List.all_eq_true.mp h2 v (hm v hv))
theorem oo(h:okC xs=true)(k:Nat):okC (xs.eraseIdx k)=true:=
 zfA h (List.length_eraseIdx_le _ _) λ v hv=>List.mem_of_mem_eraseIdx hv
noncomputable def rJ(t:Ad):Sp:=λ vs H Q E=>∃ (c:Addr) (r:Int) (o:OI) (xs:List OI),vs=[.ref c,.int r,ov o]/\ColAt t.aW H c xs/\okC xs=true/\
 (¬ (0<=r/\r < (xs.length:Int)+1)->∀ H',Same H H'->E (.ref t.bU) none H')/\
 (0<=r->r < (xs.length:Int)+1->okC (ci xs r.toNat o)=true->∀ H',Kp c H H'->ColAt t.aW H' c (ci xs r.toNat o)->Q .non H')/\
 (0<=r->r < (xs.length:Int)+1->okC (ci xs r.toNat o)=false->∀ H',Same H H'->E (.ref t.cQ) none H')
theorem sc_Column_put:aB ["self", "row", "value", "values"] ["self", "row", "value"] (ax oW):=by walk_at "sc"
theorem zgA(T:Txt K mg t)(CT:bn P w K mg base CX0 11 t.aW "told" ["self"] (jN t))(iz:Cal P w K mg base (CXr P w) 1 "check_row" ["row", "size"] (rn t))(eL:Cal P w K mg base (CXr P w) 9 "tight" ["values"] (jM K t))(F:Fun K "put" "Column.put" oW f fd):FnOk P w K mg base (CXr P w) 12 f fd ["self", "row", "value"] (rJ t):=by
 obtain ⟨uH,uI,i8,jr,jg⟩:=CT;refine F.okX sc_Column_put (λ vs H Q E h=>?_) (λ cdv A outer s H vs Q E hr h=>?_)
 ·obtain ⟨c,r,o,xs,rfl,_⟩:=h;rfl
 ·obtain ⟨c,r,o,xs,rfl,⟨dx,hC⟩,ok,q1,q2,q3⟩:=h;have hl:=ge ok;have el:(xs.map ov).length=xs.length:=aj _;refine ⟨_,(ao (aI (i:=3) sc_Column_put.nd rfl (Or.inl rfl) (c8 (pv 0) T.dm jr i8 (hr.mono (by decide)) jg .nil az))
  (ao (bP (iz.pe hr dj (aa (pv 1) (aa (au bv (aR (cJ K) (by rfl) T.bH PyProof.Rows.Boot.«len» (aa (pv 3) ae)) aq) ae))))
  (ao (bP (bW K PySem.F.plainAttrs_list PySem.F.slot_list_insert PySem.F.type_list_insert zeI (pv 3) (aa (pv 1) (aa (pv 2) ae))))
  (am (cB (pv 0) (eL.pe hr dj (aa (pv 3) ae)) rfl))))),?_⟩
  refine ⟨_,rfl,c,dx,_,rfl,hC,rfl,c,xs,rfl,⟨dx,hC⟩,ok,λ l H1 s1 hn h1=>?_⟩;refine ⟨_,rfl,_,rfl,l,_,rfl,.inl (SqL.of h1),_,_,rfl,rfl,r,_,rfl,λ hc=>?_,λ hc=>q1 (by rw [el] at hc;exact hc) H1 s1⟩;rw [el] at hc;refine ⟨_,rfl,.inl ⟨rfl,_,SqL.of h1⟩,_,rfl,_,rfl,l,_,r,_,rfl,rfl,h1,hc.1,by rw [el];omega,by rw [el];omega,?_⟩;rw [zc5];have s2:Same H (upd H1 l (.lst ((ci xs r.toNat o).map ov))):=lj s1 hn;have h2:(upd H1 l (.lst ((ci xs r.toNat o).map ov))) l=some (.lst ((ci xs r.toNat o).map ov)):=ah;have hlen:(ci xs r.toNat o).length<=1000:=by
   unfold ci;rw [aO,bc,List.length_cons,List.length_drop];omega
  generalize upd H1 l (.lst ((ci xs r.toNat o).map ov))=H2 at s2 h2;refine ⟨_,rfl,l,_,rfl,SqL.of h2,hlen,λ ok2 H3 s3=>?_,λ nok H3 s3=>q3 hc.1 hc.2 nok H3 (s2.trans s3)⟩;exact ⟨_,rfl,c,t.aW,dx,_,rfl,(s2.trans s3) _ _ hC,T.dm,T.jb,by show 1 < 1000;decide,q2 hc.1 hc.2 ok2 _ ((Kp.of (s2.trans s3)).trans Kp.own) ⟨dx,ah⟩⟩
noncomputable def rp(t:Ad):Sp:=λ vs H Q E=>∃ (c:Addr) (r:Int) (xs:List OI),vs=[.ref c,.int r]/\ColAt t.aW H c xs/\okC xs=true/\
 (¬ (0<=r/\r < (xs.length:Int))->∀ H',Same H H'->E (.ref t.bU) none H')/\
 (0<=r->r < (xs.length:Int)->∀ H',Kp c H H'->ColAt t.aW H' c (xs.eraseIdx r.toNat)->Q .non H')
theorem sc_Column_drop:aB ["self", "row", "values"] ["self", "row"] (ax oU):=by walk_at "sc"
theorem zf4(T:Txt K mg t)(CT:bn P w K mg base CX0 11 t.aW "told" ["self"] (jN t))(iz:Cal P w K mg base (CXr P w) 1 "check_row" ["row", "size"] (rn t))(eL:Cal P w K mg base (CXr P w) 9 "tight" ["values"] (jM K t))(F:Fun K "drop" "Column.drop" oU f fd):FnOk P w K mg base (CXr P w) 12 f fd ["self", "row"] (rp t):=by
 obtain ⟨uH,uI,i8,jr,jg⟩:=CT;refine F.okX sc_Column_drop (λ vs H Q E h=>?_) (λ cdv A outer s H vs Q E hr h=>?_)
 ·obtain ⟨c,r,xs,rfl,_⟩:=h;rfl
 ·obtain ⟨c,r,xs,rfl,⟨dx,hC⟩,ok,q1,q2⟩:=h;have hl:=ge ok;have el:(xs.map ov).length=xs.length:=aj _;refine ⟨_,(ao (aI (i:=2) sc_Column_drop.nd rfl (Or.inl rfl) (c8 (pv 0) T.dm jr i8 (hr.mono (by decide)) jg .nil az))
  (ao (bP (iz.pe hr dj (aa (pv 1) (aa (aR (cJ K) (by rfl) T.bH PyProof.Rows.Boot.«len» (aa (pv 2) ae)) ae))))
  (ao (bP (bW K PySem.F.plainAttrs_list PySem.F.slot_list_pop PySem.F.type_list_pop vK (pv 2) (aa (pv 1) ae)))
  (am (cB (pv 0) (eL.pe hr dj (aa (pv 2) ae)) rfl))))),?_⟩
  refine ⟨_,rfl,c,dx,_,rfl,hC,rfl,c,xs,rfl,⟨dx,hC⟩,ok,λ l H1 s1 hn h1=>?_⟩;refine ⟨_,rfl,_,rfl,l,_,rfl,.inl (SqL.of h1),r,_,rfl,λ hc=>?_,λ hc=>q1 (by rw [el] at hc;exact hc) H1 s1⟩;rw [el] at hc;have hsi:seqIndex? r (xs.map ov).length=some r.toNat:=by
   rw [el];exact (kB (vh hc.1 hc.2)).1
  refine ⟨_,rfl,.inl ⟨rfl,_,SqL.of h1⟩,_,rfl,l,_,r,r.toNat,ov (at' xs r.toNat),rfl,rfl,h1,by omega,by omega,hsi,by rw [aH,getD_at' (by omega)];rfl,?_⟩;rw [zbA];have s2:Same H (upd H1 l (.lst ((xs.eraseIdx r.toNat).map ov))):=lj s1 hn;have h2:(upd H1 l (.lst ((xs.eraseIdx r.toNat).map ov))) l=some (.lst ((xs.eraseIdx r.toNat).map ov)):=ah;have hok:=oo ok r.toNat;have hlen:=ge hok;generalize upd H1 l (.lst ((xs.eraseIdx r.toNat).map ov))=H2 at s2 h2;refine ⟨_,rfl,l,_,rfl,SqL.of h2,by omega,λ ok2 H3 s3=>?_,λ nok=>(by rw [hok] at nok;cases nok)⟩;exact ⟨_,rfl,c,t.aW,dx,_,rfl,(s2.trans s3) _ _ hC,T.dm,T.jb,by show 1 < 1000;decide,q2 hc.1 hc.2 _ ((Kp.of (s2.trans s3)).trans Kp.own) ⟨dx,ah⟩⟩
noncomputable def asc(z:Str):Prop:=z.cps.all (· < 128)=true
noncomputable def qW(z:Str):Bool:=z.cps.toList.all λ c=>decide (97<=c/\c<=122)
noncomputable def gj(m:Int):V->Bool
 | .str z=>decide (1<=(z.length:Int)/\(z.length:Int)<=m) && qW z
 | _=>false
noncomputable def okT:V->Prop
 | .str z=>asc z/\z.length<=1000
 | .non=>True
 | .int _=>True
 | _=>False
noncomputable def gq:V->Bool
 | .non=>true
 | x=>gj 12 x
theorem zdK:("a" : Str).cps.toList=[97]:=by decide +kernel
theorem zdL:("z" : Str).cps.toList=[122]:=by decide +kernel
noncomputable def xP:Sp:=λ vs H Q _=>∃ z:Str,vs=[.str z]/\asc z/\z.length<=1000/\∀ H',Same H H'->Q (.bl (qW z)) H'
theorem zeX:(["sign"]:List Str).Nodup:=by decide +kernel
theorem ziz:aB ["text"] ["text"] (ax pJ):=by walk_at "sc"
theorem zgo(T:Txt K mg t)(F:Fun K "are_small_letters" "are_small_letters" pJ f fd):FnOk P w K mg base CX0 1 f fd ["text"] xP:=by
 refine F.ok ziz (λ vs H Q E h=>?_) (λ cdv A outer s H vs Q E hr h=>?_)
 ·obtain ⟨z,rfl,_⟩:=h;rfl
 ·obtain ⟨z,rfl,ha,hz,q⟩:=h;have el:z.cps.toList.length=z.length:=Array.length_toList;refine ⟨_,(am (aC (aR (mW K rfl) (by rfl) T.kJ PyProof.Rows.Boot.«all» (aa (cL (N:=["sign"]) (fr:=[none]) ⟨rfl,rfl,rfl,rfl,rfl,rfl⟩ rfl (zht (pv 0))
    (λ C fp s H=>⟨aU (i:=0) zeX rfl (Or.inl rfl),bZ,(jw wq wq aD (pv 0) aD)⟩)) ae)))),?_⟩
  refine ⟨_,rfl,z,rfl,ha,m6 (n:=z.length) (λ i acc H'=>H'=H/\acc=(z.cps.toList.take i).map λ c=>V.bl (decide (97<=c/\c<=122))) ⟨rfl,rfl⟩ ?_ (Nat.le_of_lt (br hz)) ?_ ?_⟩
  ·rintro i acc H' hi ⟨rfl,rfl⟩;exact ⟨by rw [aj,bc];omega,λ h=>h,λ h=>h⟩
  ·rintro i x acc H1 H2 hi ⟨rfl,rfl⟩ ⟨rfl,c,hc,rfl⟩;refine ⟨Wk.set rfl,tT ⟨_,rfl,_,_,rfl,rfl,_,rfl,?_⟩⟩;have et:((z.cps.toList.take (i+1)).map λ c=>V.bl (decide (97<=c/\c<=122)))=((z.cps.toList.take i).map λ c=>V.bl (decide (97<=c/\c<=122)))++[V.bl (decide (97<=c/\c<=122))]:=by rw [List.take_add_one,hc,aJ];rfl
   rw [zdK];show if (!decide (([c]:List Nat) < [97]))=true then _ else _
   rw [vD];by_cases h1:c < 97
   ·rw [aN h1];refine ay (cw hi ⟨rfl,?_⟩);rw [et,aK (λ z=>by omega)]
   ·rw [aK h1];refine aE ⟨_,_,rfl,rfl,cw hi ⟨rfl,?_⟩⟩;rw [zdL];show _++[V.bl (!decide (([122]:List Nat) < [c]))]=_;rw [vD,et]
    congr 3
    by_cases h2:122 < c
    ·rw [aN h2,aK (λ z=>by omega)];rfl
    ·rw [aK h2,aN (by omega)];rfl
  ·rintro acc H1 ⟨rfl,rfl⟩ p hp;refine ⟨p,z.cps.toList.map λ c=>decide (97<=c/\c<=122),rfl,.of ?_,?_⟩
   ·rw [ah,← el,bd,List.map_map];rfl
   ·rw [List.all_map];exact q _ (Same.new hp)
noncomputable def rM(K:W.Frag):Sp:=λ vs H Q _=>∃ (x:V) (m:Int),vs=[x,.int m]/\okT x/\∀ H',Same H H'->Q (.bl (gj m x)) H'
theorem ziN:aB ["text", "most"] ["text", "most"] (ax p8):=by walk_at "sc"
theorem zgO(T:Txt K mg t)(lL:Cal P w K mg base CX0 1 "are_small_letters" ["text"] xP)(F:Fun K "is_small" "is_small" p8 f fd):FnOk P w K mg base CX0 2 f fd ["text", "most"] (rM K):=by
 refine F.ok ziN (λ vs H Q E h=>?_) (λ cdv A outer s H vs Q E hr h=>?_)
 ·obtain ⟨x,m,rfl,_⟩:=h;rfl
 ·obtain ⟨x,m,rfl,hx,q⟩:=h;have szl:=sizeLine_eq;refine ⟨_,(am (aC (gD (aR (dk K) (by rfl) T.dq PyProof.Rows.Boot.«isinstance» (aa (pv 0) (aa (hW T.zfw PyProof.Rows.Boot.«str») ae))) (gD (jw ff ff aq (aR kf (by rfl) T.bH PyProof.Rows.Boot.«len» (aa (pv 0) ae)) (pv 1)) (fF (lL.pe hr az (aa (pv 0) ae))))))),?_⟩;cases x with
  | non=>exact ⟨_,rfl,_,_,_,rfl,gY .non T.ins,_,rfl,ay (q _ (Same.refl _))⟩
  | int i=>exact ⟨_,rfl,_,_,_,rfl,gY (.int i) T.iis,_,rfl,ay (q _ (Same.refl _))⟩
  | str z=>
   obtain ⟨ha,hz⟩:=hx;refine ⟨_,rfl,_,_,_,rfl,gY (.str z) T.iss,_,rfl,aE ⟨_,rfl,z,rfl,by omega,_,_,rfl,rfl,_,rfl,?_⟩⟩;have e:gj m (.str z)=(decide (1<=(z.length:Int)/\(z.length:Int)<=m) && qW z):=rfl;rw [e] at q;by_cases h1:(1:Int)<=(z.length:Int)
   ·rw [aN h1];refine aE ⟨_,rfl,_,_,rfl,rfl,_,rfl,?_⟩;by_cases h2:(z.length:Int)<=m
    ·rw [aN h2];rw [aN (And.intro h1 h2)] at q;exact aE ⟨_,rfl,z,rfl,ha,hz,q⟩
    ·rw [aK h2];rw [aK (λ y=>h2 y.2)] at q;exact ay (q _ (Same.refl _))
   ·rw [aK h1];rw [aK (λ y=>h1 y.1)] at q;exact ay ⟨_,rfl,ay (q _ (Same.refl _))⟩
  | bl _=>exact hx.elim
  | ref _=>exact hx.elim
  | _=>exact hx.elim
noncomputable def yg(K:W.Frag):Sp:=λ vs H Q _=>∃ x:V,vs=[x]/\okT x/\∀ H',Same H H'->Q (.bl (gj 12 x)) H'
theorem ziP:aB ["word"] ["word"] (ax qc):=by walk_at "sc"
theorem zg5(T:Txt K mg t)(iB:Cal P w K mg base CX0 2 "is_small" ["text", "most"] (rM K))(F:Fun K "is_written" "is_written" qc f fd):FnOk P w K mg base CX0 3 f fd ["word"] (yg K):=by
 refine F.ok ziP (λ vs H Q E h=>?_) (λ cdv A outer s H vs Q E hr h=>?_)
 ·obtain ⟨x,rfl,_⟩:=h;rfl
 ·obtain ⟨x,rfl,hx,q⟩:=h;refine ⟨_,(am (aC (iB.pe hr az (aa (pv 0) (aa (bo T.zca) ae))))),?_⟩;exact ⟨_,rfl,x,12,rfl,hx,q⟩
noncomputable def yf(K:W.Frag):Sp:=λ vs H Q _=>∃ x:V,vs=[x]/\okT x/\∀ H',Same H H'->Q (.bl (gq x)) H'
theorem ziO:aB ["word"] ["word"] (ax p9):=by walk_at "sc"
theorem zg4(T:Txt K mg t)(lW:Cal P w K mg base CX0 3 "is_written" ["word"] (yg K))(F:Fun K "is_word" "is_word" p9 f fd):FnOk P w K mg base CX0 4 f fd ["word"] (yf K):=by
 refine F.ok ziO (λ vs H Q E h=>?_) (λ cdv A outer s H vs Q E hr h=>?_)
 ·obtain ⟨x,rfl,_⟩:=h;rfl
 ·obtain ⟨x,rfl,hx,q⟩:=h;refine ⟨_,(am (aC (oG (iW dM (pv 0) bx (aP _)) (fF (lW.pe hr az (aa (pv 0) ae)))))),?_⟩;refine ⟨_,rfl,rfl,_,rfl,?_⟩;cases x with
  | non=>exact aE (q _ (Same.refl _))
  | int i=>exact ay ⟨_,rfl,_,rfl,hx,q⟩
  | str z=>exact ay ⟨_,rfl,_,rfl,hx,q⟩
  | _=>exact hx.elim
noncomputable def valV':V->Bool
 | .non=>true
 | .int i=>okV (some i)
 | _=>false
noncomputable def rO(K:W.Frag):Sp:=λ vs H Q _=>∃ z:Str,vs=[.str z]/\Q (.bl false) H
theorem zg3(T:Txt K mg t)(F:Fun K "is_whole" "is_whole" li f fd):FnOk P w K mg base CX0 1 f fd ["thing"] (rO K):=by
 refine F.ok xi (λ vs H Q E h=>?_) (λ cdv A outer s H vs Q E hr h=>?_)
 ·obtain ⟨z,rfl,_⟩:=h;rfl
 ·obtain ⟨z,rfl,q⟩:=h;refine ⟨_,(am (aC (gD (aR (dk K) (by rfl) T.dq PyProof.Rows.Boot.«isinstance» (aa (pv 0) (aa (hW T.oi PyProof.Rows.Boot.«int») ae))) (fF (wA (aR (dk K) (by rfl) T.dq PyProof.Rows.Boot.«isinstance» (aa (pv 0) (aa (hW T.vQ PyProof.Rows.Boot.«bool») ae)))))))),?_⟩;exact ⟨_,rfl,_,_,_,rfl,gY (.str z) T.isi,_,rfl,ay q⟩
noncomputable def yd(K:W.Frag):Sp:=λ vs H Q _=>∃ x:V,vs=[x]/\okT x/\Q (.bl (valV' x)) H
theorem zgZ(T:Txt K mg t)(iC:Cal P w K mg base CX0 1 "is_whole" ["thing"] (rO K))(F:Fun K "is_value" "is_value" jH f fd):FnOk P w K mg base CX0 2 f fd ["value"] (λ vs H Q _=>∃ z:Str,vs=[.str z]/\Q (.bl false) H):=by
 refine F.ok xh (λ vs H Q E h=>?_) (λ cdv A outer s H vs Q E hr h=>?_)
 ·obtain ⟨z,rfl,_⟩:=h;rfl
 ·obtain ⟨z,rfl,q⟩:=h;refine ⟨_,(am (aC (oG (iW dM (pv 0) bx (aP _)) (fF (gD (iC.pe hr az (aa (pv 0) ae)) (fF (jw ff ff (dZ d5 (bo T.km)) (pv 0) (bo T.km)))))))),?_⟩;exact ⟨_,rfl,rfl,_,rfl,ay ⟨_,rfl,z,rfl,_,rfl,ay q⟩⟩
theorem zg0(T:Txt K mg t)(C1:Cal P w K mg base CX0 1 "is_whole" ["thing"] rC)(C2:Cal P w K mg base CX0 1 "is_whole" ["thing"] (rO K))(F:Fun K "is_value" "is_value" jH f fd):FnOk P w K mg base CX0 2 f fd ["value"] (yd K):=by
 refine ((wo T C1 F).or0 (zgZ T C2 F)).imp λ vs H Q E h=>?_;obtain ⟨x,rfl,hx,q⟩:=h;cases x with
 | non=>exact .inl ⟨none,rfl,q⟩
 | int i=>exact .inl ⟨some i,rfl,q⟩
 | str z=>exact .inr ⟨z,rfl,q⟩
 | _=>exact hx.elim
noncomputable def ya(K:W.Frag)(t:Ad):Sp:=λ vs H Q _=>∃ (a:Addr) (x:V),vs=[.ref a,x]/\okT x/\
 (((∃ dx fs,H a=some (.ins t.aW dx fs))/\∀ H',Same H H'->Q (.bl (valV' x)) H')\/((∃ dx fs,H a=some (.ins t.bE dx fs))/\∀ H',Same H H'->Q (.bl (gq x)) H'))
theorem zi0:aB ["part", "value"] ["part", "value"] (ax qJ):=by walk_at "sc"
theorem zgT(T:Txt K mg t)(lV:Cal P w K mg base CX0 4 "is_word" ["word"] (yf K))(lU:Cal P w K mg base CX0 2 "is_value" ["value"] (yd K))(F:Fun K "takes" "takes" qJ f fd):FnOk P w K mg base CX0 5 f fd ["part", "value"] (ya K t):=by
 refine F.ok zi0 (λ vs H Q E h=>?_) (λ cdv A outer s H vs Q E hr h=>?_)
 ·obtain ⟨a,x,rfl,_⟩:=h;rfl
 ·obtain ⟨a,x,rfl,hx,h⟩:=h;refine ⟨_,(am (aC (dB (fg (aR (dk K) (by rfl) T.dq PyProof.Rows.Boot.«isinstance» (aa (pv 0) (aa (dN T.u5) ae)))) (lV.pe hr az (aa (pv 1) ae)) (lU.pe hr az (aa (pv 1) ae))))),?_⟩;rcases h with ⟨⟨dx,fs,h⟩,q⟩ | ⟨⟨dx,fs,h⟩,q⟩
  ·exact ⟨_,rfl,_,_,_,rfl,ve h T.dm T.zkk T.uc T.zcB,_,rfl,ay ⟨_,rfl,x,rfl,hx,q _ (Same.refl _)⟩⟩
  ·exact ⟨_,rfl,_,_,_,rfl,ve h T.dF T.zkl T.uc T.zcY,_,rfl,aE ⟨_,rfl,x,rfl,hx,q⟩⟩
noncomputable def KpL(L:List Addr)(H H':Hp):Prop:=∀ b o,b∉L->H b=some o->H' b=some o
theorem KpL.of(s:Same H H'):KpL L H H':=λ b o _ e=>s b o e
theorem KpL.one(k:Kp c H H')(hc:c∈L):KpL L H H':=λ b o hb e=>k b o (λ z=>hb (z ▸ hc)) e
theorem KpL.trans(a:KpL L H1 H2)(b:KpL L H2 H3):KpL L H1 H3:=λ x o hx e=>b x o hx (a x o hx e)
theorem KpL.put(hc:c∈L):KpL L H (upd H c o):=λ b u hb e=>by rw [ag (show b≠c from λ z=>hb (by rw [z];exact hc))];exact e
theorem KpL.mono{L':List Addr}(k:KpL L H H')(h:∀ b∈L,b∈L'):KpL L' H H':=λ b o hb e=>k b o (λ z=>hb (h b z)) e
noncomputable def dL:Nat->List Str->List (Key × V)
 | _,[]=>[]
 | n,z::r=>(.inr z,.int n)::dL (n+1) r
theorem wm:∀ (n:Nat) (ws:List Str) (z:Str),ba (dL n ws) (.inr z)=if z∈ws then some (.int ((n+ws.idxOf z:Nat):Int)) else none
 | n,[],z=>rfl
 | n,y::r,z=>by
  by_cases e:y=z
  ·subst e;rw [if_pos bB,List.idxOf_cons_self];exact iu rfl
  ·have h1:ba (dL n (y::r)) (.inr z)=ba (dL (n+1) r) (.inr z):=fL (λ q=>e (Sum.inr.inj q));rw [h1,wm (n+1) r z];by_cases hm:z∈r
   ·have hi:(y::r).idxOf z=r.idxOf z+1:=by
     have hb:(y == z)=false:=beq_eq_false_iff_ne.mpr e;rw [List.idxOf_cons,hb];rfl
    rw [if_pos hm,if_pos (bp _ hm),hi]
    congr 3
    omega
   ·rw [if_neg hm,if_neg (λ q=>(al_mc.mp q).elim (λ q=>e q.symm) hm)]
theorem wl:∀ (n:Nat) (ws:List Str) (z:Str),dL n (ws++[z])=dL n ws++[(.inr z,.int ((n+ws.length:Nat):Int))]
 | n,[],z=>rfl
 | n,y::r,z=>by
  show _::dL (n+1) (r++[z])=_::(dL (n+1) r++_);rw [wl (n+1) r z,List.length_cons]
  congr 5
  omega
theorem wg:∀ (n:Nat) (ws:List Str),(dL n ws).length=ws.length
 | _,[]=>rfl
 | n,_::r=>by show (dL (n+1) r).length+1=_;rw [wg];rfl
theorem wf:∀ (n:Nat) (ws:List Str),(dL n ws).map (λ kv=>kV kv.1)=ws.map V.str
 | _,[]=>rfl
 | n,z::r=>by show kV (.inr z)::(dL (n+1) r).map _=_;rw [wf];rfl
noncomputable def gc(ws:List Str):List (Key × V):=dL 0 ws
noncomputable def WcAt(t:Ad)(H:Hp)(a c d:Addr)(ws:List Str)(ns:List OI):Prop:=(∃ dx,H a=some (.ins t.bE dx [("column", .ref c),("numbered", .ref d)]))/\ColAt t.aW H c ns/\H d=some (.dK (gc ws))
theorem WcAt.same{t:Ad}{H H':Hp}{a c d:Addr}{ws:List Str}{ns:List OI}(h:WcAt t H a c d ws ns)(s:Same H H'):WcAt t H' a c d ws ns:=by
 obtain ⟨⟨dx,h1⟩,h2,h3⟩:=h;exact ⟨⟨dx,s _ _ h1⟩,h2.same s,s _ _ h3⟩
noncomputable def xr(t:Ad):Sp:=λ vs H Q _=>∃ (p dx:Addr),vs=[.ref p]/\H p=some (.ins t.bE dx [])/\
 ∀ (c d:Addr) (H':Hp),WcAt t H' p c d [] []->Kp p H H'->H c=none->H d=none->c≠d->Q .non H'
theorem ziu:aB ["self"] ["self"] (ax pE):=by walk_at "sc"
theorem zfK(T:Txt K mg t)(CI:fM P w K mg base (CXr P w) 10 t.aW ["self", "values"] (qZ K t))(F:Fun K "__init__" "WordColumn.__init__" pE f fd):FnOk P w K mg base CX0 12 f fd ["self"] (xr t):=by
 obtain ⟨zbF,zbN,ml,nK,mJ⟩:=CI;refine F.ok ziu (λ vs H Q E h=>?_) (λ cdv A outer s H vs Q E hr h=>?_)
 ·obtain ⟨p,dx,rfl,_⟩:=h;rfl
 ·obtain ⟨p,dx,rfl,hp,q⟩:=h;refine ⟨_,(ao (cB (pv 0) (jy nK ml (hr.mono (by decide)) rfl T.uU mJ .nil cx (aa (bD ae) ae)) rfl)
  (am (cB (pv 0) jx rfl))),?_⟩
  refine ⟨bf rfl,λ l hl=>?_⟩;have hpl:(upd H l (.lst [])) p=some (.ins t.bE dx []):=by rw [ag (aF hp hl)];exact hp
  intro c dc hc hdc ndc;have hc0:H c=none:=by
   rw [← hc,ag];intro z;rw [z,ah] at hc;cases hc
  have e1:(upd (upd (upd H l (.lst [])) dc (.own c)) c (.ins t.aW dc [])) l=some (.lst []):=by
   have n1:l≠dc:=aF ah hdc;have n2:l≠c:=aF ah hc;rw [ag n2,ag n1];exact ah
  have sA:Same H (upd (upd (upd H l (.lst [])) dc (.own c)) c (.ins t.aW dc [])):=aM (aM (Same.new hl) hdc) (by rw [ag (Ne.symm ndc)];exact hc);refine ⟨c,dc,l,[],rfl,ah,SqL.of e1,Nat.zero_le _,λ _ H2 C2 k2=>⟨rfl,?_⟩,λ z=>(by cases z)⟩;have npc:p≠c:=aF hp hc0;have h2:H2 p=some (.ins t.bE dx []):=k2 p _ npc (sA _ _ hp);refine ⟨_,rfl,p,t.bE,dx,_,rfl,h2,T.dF,T.je,by show 0 < 1000;decide,λ d hd=>?_⟩;have npd:p≠d:=aF ah hd;obtain ⟨dx2,hC2⟩:=C2;have hd2:H2 d=none:=by rw [← hd,ag (Ne.symm npd)]
  have ncd:c≠d:=aF hC2 hd2;refine ⟨_,rfl,p,t.bE,dx,_,rfl,by rw [ag npd];exact ah,T.dF,T.j6,by show 1 < 1000;decide,q c d _ ⟨⟨dx,ah⟩,⟨dx2,?_⟩,?_⟩ (λ b o hb e=>?_) hc0 ?_ ncd⟩
  ·rw [ag npc.symm,ag ncd,ag npc.symm];exact hC2
  ·rw [ag npd.symm,ah];rfl
  ·have nbd:b≠d:=λ z=>by
    subst z;have:=k2 b o (λ z=>by rw [z,hc0] at e;cases e) (sA _ _ e);rw [hd2] at this;cases this
   rw [ag hb,ag nbd,ag hb];exact k2 b o (λ z=>by rw [z,hc0] at e;cases e) (sA _ _ e)
  ·cases hz:H d with
   | none=>rfl
   | some o=>
    have:=k2 d o ncd.symm (sA _ _ hz);rw [hd2] at this;cases this
noncomputable def xU(t:Ad):Sp:=λ vs H Q _=>∃ (a c d:Addr) (ws:List Str) (ns:List OI) (x:V),vs=[.ref a,x]/\WcAt t H a c d ws ns/\ws.length<=1000/\
 ((x = .non/\Q .non H)\/∃ z:Str,x = .str z/\(z∈ws->Q (.int (ws.idxOf z)) H)/\(z∉ws->Q (.int ws.length) (upd H d (.dK (gc (ws++[z]))))))
theorem ziv:aB ["self", "word"] ["self", "word"] (ax pG):=by walk_at "sc"
theorem zgu(T:Txt K mg t)(F:Fun K "number_of" "WordColumn.number_of" pG f fd):FnOk P w K mg base CX0 1 f fd ["self", "word"] (xU t):=by
 refine F.ok ziv (λ vs H Q E h=>?_) (λ cdv A outer s H vs Q E hr h=>?_)
 ·obtain ⟨a,c,d,ws,ns,x,rfl,_⟩:=h;rfl
 ·obtain ⟨a,c,d,ws,ns,x,rfl,⟨⟨dx,h1⟩,h2,h3⟩,hl,h⟩:=h;refine ⟨_,(am (aC (dB (aQ dM (pv 1) bx (aP _)) bx (bW K PySem.F.plainAttrs_dict PySem.F.slot_dict_setdefault PySem.F.type_dict_setdefault vM (bC K (pv 0) rfl) (aa (pv 1) (aa (aR jh (by rfl) T.bH PyProof.Rows.Boot.«len» (aa (bC K (pv 0) rfl) ae)) ae)))))),?_⟩;refine ⟨_,rfl,rfl,_,rfl,?_⟩;rcases h with ⟨rfl,q⟩ | ⟨z,rfl,q1,q2⟩
  ·exact aE q
  ·have hv:=wm 0 ws z;have hlen:(gc ws).length=ws.length:=wg 0 ws;refine ay ⟨_,rfl,a,_,dx,_,_,rfl,h1,T.dF,T.j6,rfl,.inr (.inr (.inl ⟨rfl,.inl ⟨_,h3⟩⟩)),_,rfl,_,rfl,a,_,dx,_,_,rfl,h1,T.dF,T.j6,rfl,d,_,rfl,h3,d,_,.inr z,_,rfl,rfl,h3,λ v e=>?_,λ e=>⟨?_,?_⟩⟩
   ·have e:ba (dL 0 ws) (.inr z)=some v:=e;rw [hv] at e;by_cases hm:z∈ws
    ·rw [if_pos hm,Nat.zero_add] at e;cases e;exact q1 hm
    ·rw [if_neg hm] at e;cases e
   ·rw [hlen];exact br hl
   ·have e':ba (dL 0 ws) (.inr z)=none:=e;rw [hv] at e';by_cases hm:z∈ws
    ·rw [if_pos hm] at e';cases e'
    ·have ep:cC (gc ws) (.inr z) (.int ((gc ws).length:Int))=gc (ws++[z]):=by
      rw [k9 _ e,hlen];have:=wl 0 ws z;rw [Nat.zero_add] at this;exact this.symm
     rw [ep,hlen];exact q2 hm
noncomputable def cI(ws:List Str):OI->V
 | none=>.non
 | some i=>.str (ws.getD i.toNat "")
noncomputable def inR(ws:List Str)(ns:List OI):Prop:=∀ i:Int,some i∈ns->0<=i/\i < ws.length
noncomputable def xu(t:Ad):Sp:=λ vs H Q _=>∃ (a c d:Addr) (ws:List Str) (ns:List OI),vs=[.ref a]/\WcAt t H a c d ws ns/\okC ns=true/\inR ws ns/\
 ∀ (l:Addr) (H':Hp),Same H H'->H l=none->H' l=some (.lst (ns.map (cI ws)))->Q (.ref l) H'
theorem zeW:(["number", "words"]:List Str).Nodup:=by decide +kernel
theorem sc_WordColumn_told:aB ["self", "words"] ["self"] (ax pI):=by walk_at "sc"
theorem zfM(T:Txt K mg t)(CT:bn P w K mg base CX0 11 t.aW "told" ["self"] (jN t))(F:Fun K "told" "WordColumn.told" pI f fd):FnOk P w K mg base CX0 12 f fd ["self"] (xu t):=by
 obtain ⟨uH,uI,i8,jr,jg⟩:=CT;refine F.ok sc_WordColumn_told (λ vs H Q E h=>?_) (λ cdv A outer s H vs Q E hr h=>?_)
 ·obtain ⟨a,c,d,ws,ns,rfl,_⟩:=h;rfl
 ·obtain ⟨a,c,d,ws,ns,rfl,W,ok,hR,q⟩:=h;obtain ⟨⟨dx,h1⟩,h2,h3⟩:=id W;have hl:=ge ok;refine ⟨_,(ao (aI (i:=1) sc_WordColumn_told.nd rfl (Or.inr rfl) (iV (tY rfl) (by rfl) T.ju PyProof.Rows.Boot.«list» (aa (bC K (pv 0) rfl) ae)))
  (am (aC (cL (N:=["number", "words"]) (fr:=[none,some 1]) ⟨rfl,rfl,rfl,rfl,rfl,rfl⟩ rfl (cH (c8 (bC K (pv 0) rfl) T.dm jr i8 (hr.mono (by decide)) jg .nil az))
    (λ C fp s H=>⟨aU (i:=0) zeW rfl (Or.inl rfl),bZ,(dB (aQ dM (pv 0) bx (aP _)) bx (bj (bG K) (pv 1) (pv 0) (λ _ _=>rfl)))⟩))))),?_⟩
  refine ⟨_,rfl,a,_,dx,_,_,rfl,h1,T.dF,T.j6,rfl,d,_,rfl,h3,λ lw hlw=>?_⟩;rw [show (gc ws).map (λ kv=>kV kv.1)=ws.map V.str from wf 0 ws];have s1:Same H (upd H lw (.lst (ws.map V.str))):=Same.new hlw;have hw:(upd H lw (.lst (ws.map V.str))) lw=some (.lst (ws.map V.str)):=ah;show cR _ _ _ (upd H lw (.lst (ws.map V.str))) _;generalize upd H lw (.lst (ws.map V.str))=H1 at s1 hw;obtain ⟨dc,hC⟩:=h2.same s1;refine ⟨_,rfl,a,_,dx,_,_,rfl,s1 _ _ h1,T.dF,T.je,rfl,c,dc,_,rfl,hC,rfl,c,ns,rfl,⟨dc,hC⟩,ok,λ ln H2 s2 hn2 hh2=>?_⟩;have hw2:=s2 _ _ hw;refine ⟨ln,rfl,⟨_,SqL.of hh2⟩,⟨de (xs:=ns.map ov) (λ i acc H'=>Same H2 H'/\acc=(ns.take i).map (cI ws)) ⟨Same.refl _,rfl⟩ ?_ ?_ ?_ ?_⟩⟩
  ·rintro i acc H' hi ⟨s3,rfl⟩;refine ⟨SqL.of (s3 _ _ hh2),?_⟩;rw [aj,bc];omega
  ·rw [aj];exact Nat.le_of_lt (br (by omega))
  ·rintro i x acc H3 hx hlt ⟨s3,rfl⟩;have hlt':i < ns.length:=by rwa [aj] at hlt
   have ei:ns[i]?=some ns[i]:=aA hlt';rw [aH,ei] at hx;cases hx;have hm:=List.getElem_mem hlt';have et:(ns.take (i+1)).map (cI ws)=(ns.take i).map (cI ws)++[cI ws ns[i]]:=by rw [List.take_add_one,ei,aJ];rfl
   generalize ns[i]=o at et hm;refine ⟨Wk.set rfl,tT ⟨_,rfl,rfl,_,rfl,?_⟩⟩;cases o with
   | none=>exact aE (cw hlt ⟨s3,et.symm⟩)
   | some k=>
    obtain ⟨k0,k1⟩:=hR k hm;have ak:atI (ws.map V.str) k=some (.str (ws.getD k.toNat "")):=fm k0 (by
     have hk:k.toNat < ws.length:=by omega
     rw [aH,aA hk,List.getD_eq_getElem?_getD,aA hk];rfl)
    exact ay ⟨_,rfl,_,rfl,lw,_,_,_,rfl,rfl,SqL.of (s3 _ _ hw2),ak,cw hlt ⟨s3,et.symm⟩⟩
  ·rintro acc H3 ⟨s3,rfl⟩ l hl3;have t3:=(s1.trans s2).trans s3;refine q l _ (aM t3 hl3) (t3.free hl3) ?_;rw [ah,aj,bd]
noncomputable def xp(t:Ad):Sp:=λ vs H Q _=>∃ (a c d:Addr) (ws:List Str) (ns:List OI),vs=[.ref a]/\WcAt t H a c d ws ns/\Q (.str (fK ns)) H
theorem zis:aB ["self"] ["self"] (ax pC):=by walk_at "sc"
theorem zfI(T:Txt K mg t)(CB:bn P w K mg base CX0 1 t.aW "bits" ["self"] (rh t))(F:Fun K "bits" "WordColumn.bits" pC f fd):FnOk P w K mg base CX0 2 f fd ["self"] (xp t):=by
 obtain ⟨zbH,zbP,mn,nM,mL⟩:=CB;refine F.ok zis (λ vs H Q E h=>?_) (λ cdv A outer s H vs Q E hr h=>?_)
 ·obtain ⟨a,c,d,ws,ns,rfl,_⟩:=h;rfl
 ·obtain ⟨a,c,d,ws,ns,rfl,⟨⟨dx,h1⟩,⟨dc,hC⟩,h3⟩,q⟩:=h;refine ⟨_,(am (aC (c8 (bC K (pv 0) rfl) T.dm nM mn (hr.mono (by decide)) mL .nil az))),?_⟩;exact ⟨_,rfl,a,_,dx,_,_,rfl,h1,T.dF,T.je,rfl,c,dc,_,rfl,hC,rfl,c,ns,rfl,⟨dc,hC⟩,q⟩
noncomputable def cA(ws:List Str):V->List Str × OI
 | .str z=>if z∈ws then (ws,some (ws.idxOf z:Int)) else (ws++[z],some (ws.length:Int))
 | _=>(ws,none)
noncomputable def xt(t:Ad):Sp:=λ vs H Q _=>∃ (a c d:Addr) (r:Int) (x:V) (ws:List Str) (ns:List OI),vs=[.ref a,.int r,x]/\WcAt t H a c d ws ns/\okC ns=true/\ws.length<=1000/\0<=r/\r < (ns.length:Int)+1/\(x = .non\/∃ z,x = .str z)/\
 okC (ci ns r.toNat (cA ws x).2)=true/\∀ H',KpL [c,d] H H'->WcAt t H' a c d (cA ws x).1 (ci ns r.toNat (cA ws x).2)->Q .non H'
theorem ziw:aB ["self", "row", "word"] ["self", "row", "word"] (ax pH):=by walk_at "sc"
theorem zfL(T:Txt K mg t)(CP:bn P w K mg base (CXr P w) 12 t.aW "put" ["self", "row", "value"] (rJ t))(CN:bn P w K mg base CX0 1 t.bE "number_of" ["self", "word"] (xU t))(F:Fun K "put" "WordColumn.put" pH f fd):FnOk P w K mg base CX0 13 f fd ["self", "row", "word"] (xt t):=by
 obtain ⟨zbL,zbT,mt,nR,mQ⟩:=CP;obtain ⟨zkN,zk5,zV,zeh,zaA⟩:=CN;refine F.ok ziw (λ vs H Q E h=>?_) (λ cdv A outer s H vs Q E hr h=>?_)
 ·obtain ⟨a,c,d,r,x,ws,ns,rfl,_⟩:=h;rfl
 ·obtain ⟨a,c,d,r,x,ws,ns,rfl,W,ok,hw,r0,r1,hx,okn,q⟩:=h;obtain ⟨⟨dx,h1⟩,⟨dc,hC⟩,h3⟩:=id W;have nac:a≠c:=cZ h1 hC λ z=>absurd (show (2:Nat)=1 from congrArg List.length (HO.ins.inj z).2.2) (by decide);have nad:a≠d:=cZ h1 h3 (by intro z;cases z);have ncd:c≠d:=cZ hC h3 (by intro z;cases z);refine ⟨_,(am (bP (bJ (bC K (pv 0) rfl) T.dm nR mt (hr.mono (by decide)) mQ .nil cx (aa (pv 1) (aa (bJ (pv 0) T.dF zeh zV (hr.mono (by decide)) zaA .nil az (aa (pv 2) ae)) ae))))),?_⟩
  -- what put of the column leaves
  have fin:∀ (o:OI) (H1:Hp),ColAt t.aW H1 c ns->KpL [c,d] H H1->o=(cA ws x).2->H1 d=some (.dK (gc (cA ws x).1))->∀ H2,Kp c H1 H2->ColAt t.aW H2 c (ci ns r.toNat o)->Q .non H2:=λ o H1 C1 k1 eo hd1 H2 k2 C2=>by
   subst eo;refine q H2 (k1.trans (KpL.one k2 (by simp))) ⟨⟨dx,k2 a _ nac (k1 a _ (by simp [nac,nad]) h1)⟩,C2,k2 d _ ncd.symm hd1⟩
  refine ⟨_,rfl,a,_,dx,_,_,rfl,h1,T.dF,T.je,rfl,c,dc,_,rfl,hC,rfl,_,rfl,_,rfl,a,dx,_,rfl,h1,rfl,_,rfl,a,c,d,ws,ns,x,rfl,W,hw,?_⟩;have no1:∀ {Z:Prop},¬ (0<=r/\r < (ns.length:Int)+1)->Z:=λ h=>absurd ⟨r0,r1⟩ h;rcases hx with rfl | ⟨z,rfl⟩
  ·refine .inl ⟨rfl,c,r,none,ns,rfl,⟨dc,hC⟩,ok,λ h=>no1 h,λ _ _ _ H2 k2 C2=>fin none H ⟨dc,hC⟩ (KpL.of (Same.refl _)) rfl h3 H2 k2 C2,λ _ _ z=>?_⟩;have:okC (ci ns r.toNat none)=true:=okn;rw [this] at z;cases z
  ·refine .inr ⟨z,rfl,λ hm=>?_,λ hm=>?_⟩
   ·have en:cA ws (.str z)=(ws,some (ws.idxOf z:Int)):=if_pos hm;refine ⟨c,r,some (ws.idxOf z:Int),ns,rfl,⟨dc,hC⟩,ok,λ h=>no1 h,λ _ _ _ H2 k2 C2=>fin _ H ⟨dc,hC⟩ (KpL.of (Same.refl _)) (by rw [en]) (by rw [en];exact h3) H2 k2 C2,λ _ _ z=>?_⟩;rw [en] at okn;rw [okn] at z;cases z
   ·have en:cA ws (.str z)=(ws++[z],some (ws.length:Int)):=if_neg hm;have hC':(upd H d (.dK (gc (ws++[z])))) c=some (.ins t.aW dc [("lying", .str (fK ns))]):=by rw [ag ncd];exact hC
    refine ⟨c,r,some (ws.length:Int),ns,rfl,⟨dc,hC'⟩,ok,λ h=>no1 h,λ _ _ _ H2 k2 C2=>fin _ _ ⟨dc,hC'⟩ (KpL.put (by simp)) (by rw [en]) (by rw [en];exact ah) H2 k2 C2,λ _ _ z=>?_⟩;rw [en] at okn;rw [okn] at z;cases z
noncomputable def xq(t:Ad):Sp:=λ vs H Q _=>∃ (a c d:Addr) (r:Int) (ws:List Str) (ns:List OI),vs=[.ref a,.int r]/\WcAt t H a c d ws ns/\okC ns=true/\0<=r/\r < (ns.length:Int)/\
 ∀ H',Kp c H H'->WcAt t H' a c d ws (ns.eraseIdx r.toNat)->Q .non H'
theorem zit:aB ["self", "row"] ["self", "row"] (ax pD):=by walk_at "sc"
theorem zfJ(T:Txt K mg t)(CD:bn P w K mg base (CXr P w) 12 t.aW "drop" ["self", "row"] (rp t))(F:Fun K "drop" "WordColumn.drop" pD f fd):FnOk P w K mg base CX0 13 f fd ["self", "row"] (xq t):=by
 obtain ⟨zbI,zbQ,mo,nO,mM⟩:=CD;refine F.ok zit (λ vs H Q E h=>?_) (λ cdv A outer s H vs Q E hr h=>?_)
 ·obtain ⟨a,c,d,r,ws,ns,rfl,_⟩:=h;rfl
 ·obtain ⟨a,c,d,r,ws,ns,rfl,⟨⟨dx,h1⟩,⟨dc,hC⟩,h3⟩,ok,r0,r1,q⟩:=h;have nac:a≠c:=cZ h1 hC λ z=>absurd (show (2:Nat)=1 from congrArg List.length (HO.ins.inj z).2.2) (by decide);have ncd:c≠d:=cZ hC h3 (by intro z;cases z);refine ⟨_,(am (bP (bJ (bC K (pv 0) rfl) T.dm nO mo (hr.mono (by decide)) mM .nil cx (aa (pv 1) ae)))),?_⟩;exact ⟨_,rfl,a,_,dx,_,_,rfl,h1,T.dF,T.je,rfl,c,dc,_,rfl,hC,rfl,_,rfl,c,r,ns,rfl,⟨dc,hC⟩,ok,λ h=>absurd ⟨r0,r1⟩ h,λ _ _ H2 k2 C2=>q H2 k2 ⟨⟨dx,k2 a _ nac h1⟩,C2,k2 d _ ncd.symm h3⟩⟩
theorem vF{κ:Type}[DecidableEq κ]:∀ (acc l:List κ),(met acc l).length=acc.length+l.length↔l.Nodup/\∀ x∈l,x∉acc
 | acc,[]=>by simp [met]
 | acc,k::r=>by
  have ih:=vF (if k∈acc then acc else acc++[k]) r;have hle:=kF (if k∈acc then acc else acc++[k]) r;show (met (if k∈acc then acc else acc++[k]) r).length=acc.length+(r.length+1)↔_;by_cases hk:k∈acc
  ·rw [if_pos hk] at hle ⊢;constructor
   ·intro h;omega
   ·rintro ⟨_,h⟩;exact absurd hk (h k bB)
  ·rw [if_neg hk] at ih ⊢;have e:acc.length+(r.length+1)=(acc++[k]).length+r.length:=by rw [aO];simp;omega
   rw [e,ih,List.nodup_cons];constructor
   ·rintro ⟨h1,h2⟩;refine ⟨⟨λ z=>h2 k z (by simp),h1⟩,λ x hx=>?_⟩;rcases al_mc.mp hx with rfl | hx
    ·exact hk
    ·exact λ z=>h2 x hx (List.mem_append_left _ z)
   ·rintro ⟨⟨h1,h2⟩,h3⟩;refine ⟨h2,λ x hx z=>?_⟩;rcases al_mp.mp z with z | z
    ·exact h3 x (bp _ hx) z
    ·rw [al_mi.mp z] at hx;exact h1 hx
theorem zew[DecidableEq κ](l:List κ):(met [] l).length=l.length↔l.Nodup:=by
 have:=vF [] l;simpa using this
theorem uv{a b:Str}(h:eqV (.str a) (.str b)=true):a=b:=by
 have h:decide (a=b)=true:=h;exact of_decide_eq_true h
noncomputable abbrev Hd2:=Str × Str
variable {hs:List Hd2} {h:Hd2}
noncomputable def eD(h:Hd2):Bool:=gj 8 (.str h.1) && decide (h.2 = "number" \/ h.2 = "word")
noncomputable def HeadsAt(H:Hp)(as:List Addr)(hs:List Hd2):Prop:=as.length=hs.length/\∀ (i:Nat) (a:Addr) (h:Hd2),as[i]?=some a->hs[i]?=some h->H a=some (.tup [.str h.1,.str h.2])
theorem HeadsAt.same(h:HeadsAt H as hs)(s:Same H H'):HeadsAt H' as hs:=⟨h.1,λ i a x e1 e2=>s _ _ (h.2 i a x e1 e2)⟩
noncomputable def di(hs:List Hd2):Bool:=decide (1<=hs.length/\hs.length<=8) && (hs.all eD && decide ((hs.map (·.1)).Nodup))
noncomputable def xG(K:W.Frag):Sp:=λ vs H Q _=>∃ (p:Addr) (h:Hd2),vs=[.ref p]/\H p=some (.tup [.str h.1,.str h.2])/\asc h.1/\h.1.length<=1000/\∀ H',Same H H'->Q (.bl (eD h)) H'
theorem ziM:aB ["head"] ["head"] (ax p7):=by walk_at "sc"
theorem zf8(T:Txt K mg t)(iB:Cal P w K mg base CX0 2 "is_small" ["text", "most"] (rM K))(F:Fun K "is_head" "is_head" p7 f fd):FnOk P w K mg base CX0 3 f fd ["head"] (xG K):=by
 refine F.ok ziM (λ vs H Q E h=>?_) (λ cdv A outer s H vs Q E hr h=>?_)
 ·obtain ⟨p,h,rfl,_⟩:=h;rfl
 ·obtain ⟨p,⟨n,k⟩,rfl,hp,ha,hl,q⟩:=h;refine ⟨_,(ao (a8 (PW.pt (hZ (fG (fg (aR (dk K) (by rfl) T.dq PyProof.Rows.Boot.«isinstance» (aa (pv 0) (aa (hW T.zfx PyProof.Rows.Boot.«tuple») ae))))) (ie (aQ dY (aR (cJ K) (by rfl) T.bH PyProof.Rows.Boot.«len» (aa (pv 0) ae)) aq (aP _))))) (am (aC eF))
   bq)
  (am (aC (gD (iB.pe hr az (aa (bj (fY K) (pv 0) aq (λ _ _=>rfl)) (aa (bo T.zb9) ae))) (fF (iW (wp K) (bj (fY K) (pv 0) aq (λ _ _=>rfl)) (gh (aa aD (aa aD ae))) (by rfl))))))),?_⟩
  refine ⟨_,rfl,_,_,_,rfl,gY (.tup hp) T.itt,_,rfl,ay ⟨_,rfl,p,_,rfl,.inr (SqT.of hp),rfl,_,rfl,ay ?_⟩⟩;refine ⟨_,rfl,p,_,_,_,rfl,rfl,SqT.of hp,rfl,_,8,rfl,⟨ha,hl⟩,λ H1 s1=>⟨_,rfl,?_⟩⟩;have q:∀ H',Same H H'->Q (.bl (gj 8 (.str n) && decide (k = "number" \/ k = "word"))) H':=q;generalize gj 8 (.str n)=b at q ⊢;cases b with
  | false=>exact ay (q _ s1)
  | true=>
   refine aE ⟨_,rfl,p,_,_,_,rfl,rfl,SqT.of (s1 _ _ hp),rfl,(show 2<=sizeLine by decide),λ tp htp=>⟨tp,_,rfl,.inr (SqT.of ah),rfl,rfl,?_⟩⟩;have e:inV (.str k) [V.str "number", V.str "word"]=decide (k = "number" \/ k = "word"):=by
    unfold inV;rw [Bool.eq_iff_iff];simp only [List.any_cons,List.any_nil,Bool.or_false,Bool.or_eq_true,decide_eq_true_eq];constructor
    ·rintro (h | h)
     ·exact .inl (uv h).symm
     ·exact .inr (uv h).symm
    ·rintro (h | h) <;> subst h
     ·exact .inl (gW rfl)
     ·exact .inr (gW rfl)
   show Q (.bl (inV (.str k) [V.str "number", V.str "word"])) _;rw [e];exact q _ (aM s1 htp)
noncomputable def xH(K:W.Frag)(t:Ad):Sp:=λ vs H Q E=>∃ (l:Addr) (as:List Addr) (hs:List Hd2),vs=[.ref l]/\SqL K H l (as.map V.ref)/\HeadsAt H as hs/\hs.length<=100/\(∀ h∈hs,asc h.1/\h.1.length<=1000)/\
 (di hs=true->∀ H',Same H H'->Q .non H')/\(di hs=false->∀ H',Same H H'->E (.ref t.cq) none H')
theorem ze3:(["head"]:List Str).Nodup:=by decide +kernel
theorem vT:(["name", "kind"]:List Str).Nodup:=by decide +kernel
theorem ziF:aB ["heads"] ["heads"] (ax pS):=by walk_at "sc"
theorem zf9(T:Txt K mg t)(lT:Cal P w K mg base CX0 3 "is_head" ["head"] (xG K))(F:Fun K "check_heads" "check_heads" pS f fd):FnOk P w K mg base (CXr P w) 4 f fd ["heads"] (xH K t):=by
 refine F.okX ziF (λ vs H Q E h=>?_) (λ cdv A outer s H vs Q E hr h=>?_)
 ·obtain ⟨l,as,hs,rfl,_⟩:=h;rfl
 ·obtain ⟨l,as,hs,rfl,hS,hA,hl,ht,q1,q2⟩:=h;have el:(as.map V.ref).length=hs.length:=by rw [aj];exact hA.1
  refine ⟨_,(ao (a8 (fG (wL ff ff aq (aR (cJ K) (by rfl) T.bH PyProof.Rows.Boot.«len» (aa (pv 0) ae)) (bo T.zb6))) (am (dP dR T.sd rfl (by rfl) T.kl (aa aD ae)))
   bq)
  (ao (a8 (fG (fg (aR (mW K rfl) (by rfl) T.kJ PyProof.Rows.Boot.«all» (aa (cL (N:=["head"]) (fr:=[none]) ⟨rfl,rfl,rfl,rfl,rfl,rfl⟩ rfl (cH (pv 0))
    (λ C fp s H=>⟨aU (i:=0) ze3 rfl (Or.inl rfl),bZ,(lT.pe hr az (aa (pv 0) ae))⟩)) ae)))) (am (dP dR T.sd rfl (by rfl) T.kl (aa aD ae)))
   bq)
  (am (a8 (aQ dY (aR zaV (by rfl) T.bH PyProof.Rows.Boot.«len» (aa (iV (za4 K rfl) (by rfl) T.zfv PyProof.Rows.Boot.«set» (aa (cL (N:=["name", "kind"]) (fr:=[none,none]) ⟨rfl,rfl,rfl,rfl,rfl,rfl⟩ rfl (cH (pv 0))
    (λ C fp s H=>⟨gE K (n:=2) rfl (dC (aU (i:=0) vT rfl (Or.inl rfl)) (dC (aU (i:=1) vT rfl (Or.inl rfl)) gF)),bZ,(pv 0)⟩)) ae)) ae)) (aR (cJ K) (by rfl) T.bH PyProof.Rows.Boot.«len» (aa (pv 0) ae)) (aP _)) (am (dP dR T.sd rfl (by rfl) T.kl (aa aD ae)))
   bq)))),?_⟩
  refine ⟨_,rfl,l,_,rfl,.inl hS,_,_,rfl,rfl,_,rfl,?_⟩;rw [el];by_cases h1:(1:Int)<=(hs.length:Int)
  ·rw [aN h1];refine aE ⟨_,_,rfl,rfl,_,rfl,?_⟩;by_cases h2:(hs.length:Int)<=8
   ·rw [aN h2];refine ay ⟨_,rfl,l,rfl,⟨_,hS⟩,⟨de (xs:=as.map V.ref) (λ i acc H'=>Same H H'/\acc=(hs.take i).map λ h=>V.bl (eD h)) ⟨Same.refl _,rfl⟩ ?_ ?_ ?_ ?_⟩⟩
    ·rintro i acc H' hi ⟨s1,rfl⟩;refine ⟨s1.seq hS,?_⟩;rw [aj,bc];omega
    ·rw [el];exact Nat.le_of_lt (br (by omega))
    ·rintro i x acc H1 hx hlt ⟨s1,rfl⟩;have hlt':i < hs.length:=by rw [← el];exact hlt
     have hla:i < as.length:=by rw [hA.1];exact hlt'
     rw [aH,aA hla] at hx;cases hx;have eh:hs[i]?=some hs[i]:=aA hlt';have hp:=(hA.same s1).2 i _ _ (aA hla) eh;obtain ⟨a1,a2⟩:=ht _ (List.getElem_mem hlt');refine ⟨Wk.set rfl,tT ⟨_,rfl,_,hs[i],rfl,hp,a1,a2,λ H2 s2=>cw hlt ⟨s1.trans s2,?_⟩⟩⟩;rw [List.take_add_one,eh,aJ];rfl
    ·rintro acc H1 ⟨s1,rfl⟩ b hb;refine ⟨b,hs.map eD,rfl,.of ?_,_,rfl,?_⟩
     ·rw [ah,el,bd,List.map_map];rfl
     rw [List.all_map,Function.id_comp];have s2:=aM (o:=.lst ((hs.take (as.map V.ref).length).map λ h=>V.bl (eD h))) s1 hb;generalize upd H1 b (.lst ((hs.take (as.map V.ref).length).map λ h=>V.bl (eD h)))=H2 at s2;cases h3:hs.all eD with
     | false=>
      refine aE ⟨by show 1<=sizeLine;decide,q2 ?_ H2 s2⟩;unfold di;rw [h3,Bool.false_and,Bool.and_false]
     | true=>
      refine ay ⟨_,rfl,l,rfl,⟨_,s2.seq hS⟩,⟨de (xs:=as.map V.ref) (λ i acc H'=>Same H H'/\acc=(hs.take i).map λ h=>V.str h.1) ⟨s2,rfl⟩ ?_ ?_ ?_ ?_⟩⟩
      ·rintro i acc H' hi ⟨s1,rfl⟩;refine ⟨s1.seq hS,?_⟩;rw [aj,bc];omega
      ·rw [el];exact Nat.le_of_lt (br (by omega))
      ·rintro i x acc H3 hx hlt ⟨s3,rfl⟩;have hlt':i < hs.length:=by rw [← el];exact hlt
       have hla:i < as.length:=by rw [hA.1];exact hlt'
       rw [aH,aA hla] at hx;cases hx;have eh:hs[i]?=some hs[i]:=aA hlt';have hp:=(hA.same s3).2 i _ _ (aA hla) eh;refine ⟨_,_,rfl,SqT.of hp,rfl,_,_,rfl,_,_,rfl,rfl,?_⟩;refine ⟨(Wk.set rfl).trans (Wk.set rfl),tT ⟨_,rfl,cw hlt ⟨s3,?_⟩⟩⟩;rw [List.take_add_one,eh,aJ];rfl
      ·rintro acc H3 ⟨s3,rfl⟩ b3 hb3;have s4:=aM (o:=.lst ((hs.map (·.1)).map V.str)) s3 hb3;have ea:(hs.take (as.map V.ref).length).map (λ h=>V.str h.1)=(hs.map (·.1)).map V.str:=by rw [el,bd,List.map_map];rfl
       rw [ea];refine ⟨b3,hs.map (·.1),rfl,SqL.of ah,by rw [aj];exact hl,λ p5 hp5=>?_⟩;have s5:=aM (o:=jZ p5 (met [] (hs.map (·.1))).length) s4 hp5;have hml:=kF [] (hs.map (·.1));rw [aj] at hml;refine ⟨p5,_,rfl,ah,by simp at hml;omega,_,rfl,l,_,rfl,.inl (s5.seq hS),rfl,_,rfl,?_⟩;show if (!decide (V.int ((met [] (hs.map (·.1))).length:Int)=V.int ((as.map V.ref).length:Int)))=true then _ else _
       rw [dec_int,el];have hm:=zew (hs.map (·.1));rw [aj] at hm;by_cases h4:(hs.map (·.1)).Nodup
       ·rw [aN (show ((met [] (hs.map (·.1))).length:Int)=(hs.length:Int) by rw [hm.mpr h4])];refine ay (q1 ?_ _ s5);unfold di;rw [aN (by omega),h3,aN h4];rfl
       ·rw [aK (show ¬ ((met [] (hs.map (·.1))).length:Int)=(hs.length:Int) from λ z=>h4 (hm.mp (by omega)))];refine aE ⟨by show 1<=sizeLine;decide,q2 ?_ _ s5⟩;unfold di;rw [aK h4,Bool.and_false,Bool.and_false]
   ·rw [aK h2];refine aE ⟨by show 1<=sizeLine;decide,q2 ?_ _ (Same.refl _)⟩;unfold di;rw [aK (by omega)];rfl
  ·rw [aK h1];refine ay ⟨_,rfl,aE ⟨by show 1<=sizeLine;decide,q2 ?_ _ (Same.refl _)⟩⟩;unfold di;rw [aK (by omega)];rfl
inductive PM where
 | num (xs:List OI)
 | wrd (ws:List Str) (ns:List OI)
variable {p:PM}
noncomputable def PM.col:PM->List OI
 | .num xs=>xs
 | .wrd _ ns=>ns
noncomputable def PM.cells:PM->List V
 | .num xs=>xs.map ov
 | .wrd ws ns=>ns.map (cI ws)
noncomputable def PM.ok:PM->Prop
 | .num xs=>okC xs=true
 | .wrd ws ns=>okC ns=true/\inR ws ns/\ws.length<=1000
noncomputable def PM.takes:PM->V->Bool
 | .num _=>valV'
 | .wrd _ _=>gq
noncomputable def PM.at(t:Ad)(H:Hp)(a:Addr)(fp:List Addr):PM->Prop
 | .num xs=>ColAt t.aW H a xs/\fp=[a]
 | .wrd ws ns=>∃ c d,WcAt t H a c d ws ns/\fp=[a,c,d]
noncomputable def voi:V->OI
 | .int i=>some i
 | _=>none
noncomputable def PM.put(x:V):PM->PM
 | .num xs=>.num (xs++[voi x])
 | .wrd ws ns=>.wrd (cA ws x).1 (ns++[(cA ws x).2])
noncomputable def PM.drop(k:Nat):PM->PM
 | .num xs=>.num (xs.eraseIdx k)
 | .wrd ws ns=>.wrd ws (ns.eraseIdx k)
theorem PM.keep(h:p.at t H a fp)(k:KpL L H H')(hd:∀ b∈fp,b∉L):p.at t H' a fp:=by
 cases p with
 | num xs=>
  obtain ⟨⟨dx,h⟩,rfl⟩:=h;exact ⟨⟨dx,k _ _ (hd a (by simp)) h⟩,rfl⟩
 | wrd ws ns=>
  obtain ⟨c,d,⟨⟨dx,h1⟩,⟨dc,h2⟩,h3⟩,rfl⟩:=h;exact ⟨c,d,⟨⟨dx,k _ _ (hd a (by simp)) h1⟩,⟨dc,k _ _ (hd c (by simp)) h2⟩,k _ _ (hd d (by simp)) h3⟩,rfl⟩
theorem PM.kind{b:Addr}(h:p.at t H a fp)(hb:b∈fp):(∃ C dx fs,H b=some (.ins C dx fs)/\fs.length<=2)\/∃ kvs,H b=some (.dK kvs):=by
 cases p with
 | num xs=>
  obtain ⟨⟨dx,h⟩,rfl⟩:=h;rw [al_mi.mp hb];exact .inl ⟨_,_,_,h,bf rfl⟩
 | wrd ws ns=>
  obtain ⟨c,d,⟨⟨dx,h1⟩,⟨dc,h2⟩,h3⟩,rfl⟩:=h;simp only [al_mc,List.not_mem_nil,or_false] at hb;rcases hb with rfl | rfl | rfl
  ·exact .inl ⟨_,_,_,h1,bf rfl⟩
  ·exact .inl ⟨_,_,_,h2,bf rfl⟩
  ·exact .inr ⟨_,h3⟩
noncomputable abbrev bb:=Addr × List Addr × PM
variable {ps:List bb} {q:bb}
noncomputable def PartsAt(t:Ad)(H:Hp)(ps:List bb):Prop:=(∀ q∈ps,q.2.2.at t H q.1 q.2.1)/\((ps.map (·.2.1)).flatten).Nodup
noncomputable def bS(ns:List Str)(ps:List bb):List (Key × V):=(ns.zip ps).map λ q=>(.inr q.1,.ref q.2.1)
theorem oB:∀ {ns:List Str} {ps:List bb} {z:Str},z∉ns->ba (bS ns ps) (.inr z)=none
 | [],_,_,_=>rfl
 | _::_,[],_,_=>rfl
 | n::r,q::ps,z,h=>by
  have h1:¬ (Sum.inr n:Key)=Sum.inr z:=λ e=>h (by rw [Sum.inr.inj e];exact bB);have e:ba (bS (n::r) (q::ps)) (.inr z)=ba (bS r ps) (.inr z):=fL h1;rw [e];exact oB λ hz=>h (bp _ hz)
theorem zhf(h:ns.length=ps.length)(z:Str)(q:bb):bS (ns++[z]) (ps++[q])=bS ns ps++[(.inr z,.ref q.1)]:=by
 unfold bS;rw [List.zip_append h,aJ];rfl
structure TabAt (t:Ad) (H:Hp) (tb pd ll:Addr) (o:Obj) (ns:List Str) (ps:List bb) (living:List Int) (coming:Int):Prop where
 tab:∃ dx,H tb=some (.ins t.aV dx [("parts", .ref pd),("living", .ref ll),("coming", .int coming)])
 dic:H pd=some (.frz o (.dK (bS ns ps)))
 liv:H ll=some (.lst (living.map V.int))
 par:PartsAt t H ps
 len:ns.length=ps.length
noncomputable def dJ(h:Hd2):PM:=if h.2 = "word" then .wrd [] [] else .num []
noncomputable def q8(K:W.Frag)(t:Ad):Sp:=λ vs H Q E=>∃ (p dx l:Addr) (as:List Addr) (hs:List Hd2),vs=[.ref p,.ref l]/\H p=some (.ins t.aV dx [])/\H l=some (.lst (as.map V.ref))/\HeadsAt H as hs/\hs.length<=100/\(∀ h∈hs,asc h.1/\h.1.length<=1000)/\
 (di hs=false->∀ H',Same H H'->E (.ref t.cq) none H')/\
 (di hs=true->∀ (H':Hp) (pd ll:Addr) (o:Obj) (ps:List bb),TabAt t H' p pd ll o (hs.map (·.1)) ps [] 0->ps.map (·.2.2)=hs.map dJ->(∀ q∈ps,∀ b∈q.2.1,H b=none/\b≠pd)->H ll=none->H pd=none->ll≠pd->Kp p H H'->Q .non H')
theorem sc_Table_init:aB ["self", "columns", "name", "kind"] ["self", "columns"] (ax o7):=by walk_at "sc"
theorem zfF(T:Txt K mg t)(lQ:Cal P w K mg base (CXr P w) 4 "check_heads" ["heads"] (xH K t))(CW:fM P w K mg base CX0 12 t.bE ["self"] (xr t))(CI:fM P w K mg base (CXr P w) 10 t.aW ["self", "values"] (qZ K t))(F:Fun K "__init__" "Table.__init__" o7 f fd):FnOk P w K mg base (CXr P w) 14 f fd ["self", "columns"] (q8 K t):=by
 obtain ⟨zbJ,zbR,mq,nP,mO⟩:=CW;obtain ⟨zbF,zbN,ml,nK,mJ⟩:=CI;refine F.okX sc_Table_init (λ vs H Q E h=>?_) (λ cdv A outer s H vs Q E hr h=>?_)
 ·obtain ⟨p,dx,l,as,hs,rfl,_⟩:=h;rfl
 ·obtain ⟨p,dx,l,as,hs,rfl,hp,hS,hA,hl,ht,q1,q2⟩:=h;have hu:=jo hr;refine ⟨_,(ao (bP (lQ.pe hr dj (aa (pv 1) ae)))
  (ao (cB (pv 0) jx rfl)
  (ao (PS.nox (dO PassesOwn.never rfl (cH (pv 1)) (gE K (n:=2) rfl (dC (aU (i:=2) sc_Table_init.nd rfl (Or.inl rfl)) (dC (aU (i:=3) sc_Table_init.nd rfl (Or.inl rfl)) gF)))
   (am (oK hu (bC K (pv 0) rfl) (pv 2) (dB (aQ c6 (pv 3) aD (aP _)) (oF nP mq (hr.mono (by decide)) rfl T.u5 mO .nil az) (jy nK ml (hr.mono (by decide)) rfl T.uU mJ .nil cx (aa (bD ae) ae))) rfl))))
  (ao (zhy (cB (pv 0) (bD ae) rfl))
  (am (cB (pv 0) aq rfl)))))),?_⟩
  refine ⟨_,rfl,l,as,hs,rfl,SqL.of hS,hA,hl,ht,λ good H1 s1=>?_,q1⟩;have q2:=q2 good;intro pd hpd;have hp1:(upd H1 pd (.dK [])) p=some (.ins t.aV dx []):=by rw [ag (aF (s1 _ _ hp) hpd)];exact s1 _ _ hp
  refine ⟨_,rfl,p,t.aV,dx,_,rfl,hp1,T.bM,T.fj,by show 0 < 1000;decide,?_⟩;have hpl:l≠p:=cZ hS hp (by intro z;cases z);have hnd:(hs.map (·.1)).Nodup:=by
   unfold di at good;rw [Bool.and_eq_true,Bool.and_eq_true] at good;exact of_decide_eq_true good.2.2
  have hpd0:H pd=none:=s1.free hpd;have npp:p≠pd:=aF (s1 _ _ hp) hpd;have k1:Kp p H (upd (upd H1 pd (.dK [])) p (.ins t.aV dx [("parts", .ref pd)])):=λ b o hb e=>by
   rw [ag hb,ag (aF (s1 _ _ e) hpd)];exact s1 _ _ e
  have h2:(upd (upd H1 pd (.dK [])) p (.ins t.aV dx [("parts", .ref pd)])) p=some (.ins t.aV dx [("parts", .ref pd)]):=ah;have h3:(upd (upd H1 pd (.dK [])) p (.ins t.aV dx [("parts", .ref pd)])) pd=some (.dK []):=by rw [ag npp.symm];exact ah
  show ip _ _ _ _ (upd (upd H1 pd (.dK [])) p (.ins t.aV dx [("parts", .ref pd)]));generalize upd (upd H1 pd (.dK [])) p (.ins t.aV dx [("parts", .ref pd)])=H2 at k1 h2 h3;have hll:∀ {H':Hp},Kp p H H'->H' l=some (.lst (as.map V.ref)):=λ k=>k l _ hpl hS;refine ⟨_,rfl,l,rfl,⟨_,SqL.of (hll k1)⟩,⟨iM (K:=K) (a:=l) (xs:=as.map V.ref) (λ i σ H'=>∃ (v2 v3:Option V) (ps:List bb),σ=[some (.ref p),some (.ref l),v2,v3]/\Kp p H H'/\H' p=some (.ins t.aV dx [("parts", .ref pd)])/\H' pd=some (.dK (bS ((hs.map (·.1)).take i) ps))/\PartsAt t H' ps/\ps.map (·.2.2)=(hs.take i).map dJ/\(∀ q∈ps,∀ b∈q.2.1,H b=none/\b≠pd)/\ps.length=i)
   ⟨none,none,[],rfl,k1,h2,h3,⟨λ q hq=>(by cases hq),List.nodup_nil⟩,rfl,λ q hq=>(by cases hq),rfl⟩ (λ i σ H' hi hp=>by obtain ⟨_,_,_,_,k,_⟩:=hp;exact SqL.of (hll k)) ?_ ?_⟩⟩
  ·rintro i x σ Hc hx ⟨v2,v3,ps,rfl,kc,hpc,hdc,⟨pa,pn⟩,hmp,hfr,hlen⟩;have hla:i < as.length:=by
    have:=(al_gs.mp hx).1
    rwa [aj] at this
   have hlh:i < hs.length:=by rw [← hA.1];exact hla
   rw [aH,aA hla] at hx;cases hx;have eh:hs[i]?=some hs[i]:=aA hlh;have hh0:=hA.2 i _ _ (aA hla) eh;have hh:=kc _ _ (cZ hh0 hp (by intro z;cases z)) hh0;have etk:(hs.map (·.1)).take (i+1)=(hs.map (·.1)).take i++[hs[i].1]:=by rw [List.take_add_one,aH,eh];rfl
   have hnz:hs[i].1∉(hs.map (·.1)).take i:=by
    have:=hnd;rw [← List.take_append_drop (i+1) (hs.map (·.1)),etk,List.append_assoc] at this;exact λ z=>(List.nodup_append.mp this).2.2 _ z _ (List.mem_append_left _ (List.mem_singleton_self _)) rfl
   have hkl:((hs.map (·.1)).take i).length=ps.length:=by rw [bc,aj];omega
   have step:∀ (x:Addr) (fp:List Addr) (H3:Hp),Same Hc H3->(dJ hs[i]).at t H3 x fp->(∀ b∈fp,Hc b=none)->fp.Nodup->∃ H4,DPut H3 pd (.str hs[i].1) (.ref x) H4/\∃ (v2 v3:Option V) (ps:List bb),[some (V.ref p),some (V.ref l),some (V.str hs[i].1),some (V.str hs[i].2)]=[some (.ref p),some (.ref l),v2,v3]/\Kp p H H4/\H4 p=some (.ins t.aV dx [("parts", .ref pd)])/\H4 pd=some (.dK (bS ((hs.map (·.1)).take (i+1)) ps))/\PartsAt t H4 ps/\ps.map (·.2.2)=(hs.take (i+1)).map dJ/\(∀ q∈ps,∀ b∈q.2.1,H b=none/\b≠pd)/\ps.length=i+1:=by
    intro x fp H3 s3 hat hfp hnf;have hd3:=s3 _ _ hdc;have hlk:(bS ((hs.map (·.1)).take i) ps).length < sizeLine:=by
     unfold bS;rw [aj,List.length_zip];exact br (by omega)
    have fpd:∀ b∈fp,b≠pd:=λ b hb z=>by
     have:=hfp b hb;rw [z,hdc] at this;cases this
    have fH:∀ b∈fp,H b=none:=λ b hb=>by
     cases hz:H b with
     | none=>rfl
     | some o=>
      by_cases hbp:b=p
      ·have:=hfp b hb;rw [hbp,hpc] at this;cases this
      ·have:=kc b o hbp hz;rw [hfp b hb] at this;cases this
    refine ⟨_,DPut.k (k:=.inr hs[i].1) hd3 hlk,_,_,ps++[(x,fp,dJ hs[i])],rfl,λ b o hb e=>?_,?_,?_,⟨λ q hq=>?_,?_⟩,?_,λ q hq=>?_,?_⟩
    ·rw [ag (λ z=>by rw [z,hpd0] at e;cases e)];exact s3 _ _ (kc b o hb e)
    ·rw [ag npp];exact s3 _ _ hpc
    ·rw [ah,k9 _ (oB hnz),etk,zhf hkl]
    ·have kL:KpL [pd] Hc (upd H3 pd (.dK (cC (bS ((hs.map (·.1)).take i) ps) (.inr hs[i].1) (.ref x)))):=(KpL.of s3).trans (KpL.put (by simp));rcases al_mp.mp hq with h | h
     ·exact PM.keep (pa q h) kL λ b hb=>by simp [(hfr q h b hb).2]
     ·rw [al_mi.mp h];exact PM.keep hat (KpL.put (L:=[pd]) (by simp)) λ b hb=>by simp [fpd b hb]
    ·rw [aJ,List.flatten_append];have ef:(([(x,fp,dJ hs[i])]:List bb).map (·.2.1)).flatten=fp:=by simp
     rw [ef];refine List.nodup_append.mpr ⟨pn,hnf,λ b hb c hc z=>?_⟩;subst z;obtain ⟨fq,hfq,hbq⟩:=List.mem_flatten.mp hb;obtain ⟨q,hq,rfl⟩:=List.mem_map.mp hfq;have:=hfp b hc;rcases PM.kind (pa q hq) hbq with ⟨_,_,_,e,_⟩ | ⟨_,e⟩ <;> rw [e] at this <;> cases this
    ·rw [aJ,hmp,List.take_add_one,eh,aJ];rfl
    ·rcases al_mp.mp hq with h | h
     ·exact hfr q h
     ·rw [al_mi.mp h];exact λ b hb=>⟨fH b hb,fpd b hb⟩
    ·rw [aO,hlen];rfl
   refine ⟨_,_,rfl,SqT.of hh,rfl,_,_,rfl,_,_,rfl,rfl,?_⟩;refine ⟨_,rfl,rfl,_,rfl,?_⟩;have un:∀ {y z:Addr} {o:HO} {Hx:Hp},(upd Hx z o) y=none->y≠z/\Hx y=none:=λ {y z o Hx} h=>by
    have n:y≠z:=λ e=>by rw [e,ah] at h;cases h
    rw [ag n] at h;exact ⟨n,h⟩
   by_cases hw:hs[i].2 = "word"
   ·rw [show decide (V.str hs[i].2=V.str "word")=true by rw [hw,dE]];refine aE λ x dx2 hx hdx2 ndx=>⟨x,dx2,rfl,ah,λ c d H3 W k3 hc3 hd3 ncd=>⟨rfl,?_⟩⟩
    obtain ⟨c1,c2⟩:=un hc3;obtain ⟨d1,d2⟩:=un hd3;have s3:Same Hc H3:=λ b o e=>k3 b o (aF e hx) (by rw [ag (aF e hx),ag (aF e hdx2)];exact e);obtain ⟨H4,D4,I4⟩:=step x [x,c,d] H3 s3 (by unfold dJ;rw [if_pos hw];exact ⟨c,d,W,rfl⟩) (λ b hb=>by
     simp only [al_mc,List.not_mem_nil,or_false] at hb;rcases hb with rfl | rfl | rfl
     ·exact hx
     ·exact (un c2).2
     ·exact (un d2).2) (by simp [c1.symm,d1.symm,ncd])
    exact ⟨_,rfl,p,_,dx,_,_,rfl,s3 _ _ hpc,T.bM,T.fj,rfl,_,rfl,pd,H4,rfl,D4,I4⟩
   ·rw [d0 hw];refine ay ⟨bf rfl,λ l0 hl0 x dx2 hx hdx2 ndx=>?_⟩;obtain ⟨x1,x2⟩:=un hx;have sl:Same Hc (upd Hc l0 (.lst [])):=Same.new hl0;have e1:(upd (upd (upd Hc l0 (.lst [])) dx2 (.own x)) x (.ins t.aW dx2 [])) l0=some (.lst []):=by
     rw [ag (aF ah hx),ag (aF ah hdx2)];exact ah
    refine ⟨x,dx2,l0,[],rfl,ah,SqL.of e1,Nat.zero_le _,λ _ H3 C3 k3=>⟨rfl,?_⟩,λ z=>(by cases z)⟩;have s3:Same Hc H3:=λ b o e=>k3 b o (aF (sl _ _ e) hx) (by rw [ag (aF (sl _ _ e) hx),ag (aF (sl _ _ e) hdx2)];exact sl _ _ e);obtain ⟨H4,D4,I4⟩:=step x [x] H3 s3 (by unfold dJ;rw [if_neg hw];exact ⟨C3,rfl⟩) (λ b hb=>by rw [al_mi.mp hb];exact x2) (by simp);exact ⟨_,rfl,p,_,dx,_,_,rfl,s3 _ _ hpc,T.bM,T.fj,rfl,_,rfl,pd,H4,rfl,D4,I4⟩
  ·rintro σ Hc ⟨v2,v3,ps,rfl,kc,hpc,hdc,⟨pa,pn⟩,hmp,hfr,hlen⟩;have ell:(as.map V.ref).length=hs.length:=by rw [aj];exact hA.1
   rw [ell] at hlen hmp hdc;have etk:(hs.map (·.1)).take hs.length=hs.map (·.1):=List.take_of_length_le (by rw [aj];exact Nat.le_refl _);rw [etk] at hdc;rw [bd] at hmp;refine ⟨bf rfl,λ ll hll0=>?_⟩;have nlp:p≠ll:=aF hpc hll0;have nld:pd≠ll:=aF hdc hll0;have hpc2:(upd Hc ll (.lst [])) p=some (.ins t.aV dx [("parts", .ref pd)]):=by rw [ag nlp];exact hpc
   refine ⟨_,rfl,p,t.aV,dx,_,rfl,hpc2,T.bM,T.fP,by show 1 < 1000;decide,pd,bS (hs.map (·.1)) ps,by rw [ag npp.symm,ag nld];exact hdc,λ o=>?_⟩;refine ⟨_,rfl,p,t.aV,dx,_,rfl,by rw [ag npp];exact ah,T.bM,T.mB,by show 2 < 1000;decide,?_⟩;have hH:∀ b,b≠p->b≠pd->∀ z,Hc b=some z->(upd (upd (upd (upd Hc ll (.lst [])) p (.ins t.aV dx (cy "living" (.ref ll) [("parts", .ref pd)]))) pd (.frz o (.dK (bS (hs.map (·.1)) ps)))) p (.ins t.aV dx (cy "coming" (.int 0) (cy "living" (.ref ll) [("parts", .ref pd)])))) b=some z:=λ b h1 h2 z e=>by
    rw [ag h1,ag h2,ag h1,ag (aF e hll0)];exact e
   have fH:∀ q∈ps,∀ b∈q.2.1,b≠p:=λ q hq b hb z=>by
    have:=(hfr q hq b hb).1;rw [z,hp] at this;cases this
   have hl0:H ll=none:=by
    cases hz:H ll with
    | none=>rfl
    | some o=>
     have:=kc ll o nlp.symm hz;rw [hll0] at this;cases this
   refine q2 _ pd ll o ps ⟨⟨dx,ah⟩,?_,?_,⟨λ q hq=>?_,pn⟩,by rw [aj,hlen]⟩ hmp hfr hl0 hpd0 nld.symm λ b z hb e=>?_
   ·rw [ag npp.symm];exact ah
   ·rw [ag nlp.symm,ag nld.symm,ag nlp.symm];exact ah
   ·exact PM.keep (L:=[p,pd]) (pa q hq) (λ b z hb e=>by
     simp only [al_mc,List.not_mem_nil,or_false,not_or] at hb;exact hH b hb.1 hb.2 z e) λ b hb=>by simp [fH q hq b hb,(hfr q hq b hb).2]
   ·have h2:b≠pd:=λ z=>by rw [z,hpd0] at e;cases e
    exact hH b hb h2 z (kc b z hb e)
theorem wx:∀ {ns:List Str} {ps:List bb} {i:Nat} {z:Str} {q:bb},ns.Nodup->ns[i]?=some z->ps[i]?=some q->ba (bS ns ps) (.inr z)=some (.ref q.1)
 | [],_,i,z,q,_,h,_=>by cases h
 | _::_,[],i,z,q,_,_,h=>by cases h
 | n::r,p::ps,0,z,q,_,h1,h2=>by
  cases h1;cases h2;exact iu rfl
 | n::r,p::ps,i+1,z,q,hn,h1,h2=>by
  obtain ⟨a,b⟩:=List.nodup_cons.mp hn;have h1:r[i]?=some z:=h1;have hne:¬ (Sum.inr n:Key)=Sum.inr z:=λ e=>a (by rw [Sum.inr.inj e];exact aS h1);have e:ba (bS (n::r) (p::ps)) (.inr z)=ba (bS r ps) (.inr z):=fL hne;rw [e];exact wx b h1 h2
theorem zc3(n:Int)(l:List Int):inV (.int n) (l.map V.int)=decide (n∈l):=by
 unfold inV;rw [Bool.eq_iff_iff,List.any_eq_true];simp only [decide_eq_true_eq];constructor
 ·rintro ⟨v,hv,e⟩;obtain ⟨m,hm,rfl⟩:=List.mem_map.mp hv;have e:(m == n)=true:=e;rw [← beq_iff_eq.mp e];exact hm
 ·intro h;exact ⟨_,List.mem_map.mpr ⟨n,h,rfl⟩,gW rfl⟩
theorem vB:∀ {l:List Int} {n y:Int} {m:Nat},m < l.idxOf n->l[m]?=some y->y≠n
 | [],n,y,m,_,h=>by cases h
 | a::r,n,y,m,hm,h=>by
  by_cases e:a=n
  ·subst e;rw [List.idxOf_cons_self] at hm;omega
  ·have hb:(a == n)=false:=beq_eq_false_iff_ne.mpr e;rw [List.idxOf_cons,hb] at hm;cases m with
   | zero=>cases h;exact e
   | succ k=>exact vB (l:=r) (m:=k) (by simpa using hm) h
theorem jp(l:List Int):(l.map V.int).all bN=true:=by
 rw [List.all_eq_true];intro x hx;obtain ⟨i,_,rfl⟩:=List.mem_map.mp hx;rfl
theorem PartsAt.same(h:PartsAt t H ps)(s:Same H H'):PartsAt t H' ps:=⟨λ q hq=>PM.keep (L:=[]) (h.1 q hq) (KpL.of s) λ b _=>by simp,h.2⟩
theorem TabAt.same{t:Ad}{H H':Hp}{tb pd ll:Addr}{o:Obj}{ns:List Str}{ps:List bb}{living:List Int}{coming:Int}(h:TabAt t H tb pd ll o ns ps living coming)(s:Same H H'):TabAt t H' tb pd ll o ns ps living coming:=by
 obtain ⟨⟨dx,h1⟩,h2,h3,h4,h5⟩:=h;exact ⟨⟨dx,s _ _ h1⟩,s _ _ h2,s _ _ h3,h4.same s,h5⟩
noncomputable def xW(t:Ad):Sp:=λ vs H Q E=>∃ (tb pd ll:Addr) (o:Obj) (ns:List Str) (ps:List bb) (living:List Int) (coming:Int) (z:Str),vs=[.ref tb,.str z]/\TabAt t H tb pd ll o ns ps living coming/\ns.Nodup/\
 (∀ (i:Nat) (q:bb),ns[i]?=some z->ps[i]?=some q->Q (.ref q.1) H)/\(z∉ns->E (.ref t.cr) none H)
theorem ziq:aB ["self", "name"] ["self", "name"] (ax o9):=by walk_at "sc"
theorem zgx(T:Txt K mg t)(F:Fun K "part" "Table.part" o9 f fd):FnOk P w K mg base (CXr P w) 1 f fd ["self", "name"] (xW t):=by
 refine F.okX ziq (λ vs H Q E h=>?_) (λ cdv A outer s H vs Q E hr h=>?_)
 ·obtain ⟨tb,pd,ll,o,ns,ps,living,coming,z,rfl,_⟩:=h;rfl
 ·obtain ⟨tb,pd,ll,o,ns,ps,living,coming,z,rfl,⟨⟨dx,h1⟩,h2,h3,h4,h5⟩,hn,q1,q2⟩:=h;have hu:=jo hr;have dg:DGet H pd (.str z) (ba (bS ns ps) (.inr z)):=.inl ⟨_,.inr z,.inr ⟨o,h2⟩,rfl,rfl⟩;refine ⟨_,(ao (a8 (wM (zhh hu (pv 1) (bC K (pv 0) rfl))) (am (dP dR T.zkj rfl (by rfl) T.uV (aa aD ae)))
   bq)
  (am (aC (oE hu (bC K (pv 0) rfl) (pv 1) (λ _ _=>rfl))))),?_⟩
  refine ⟨_,rfl,_,rfl,tb,_,dx,_,_,rfl,h1,T.bM,T.fj,rfl,pd,_,rfl,dg,_,rfl,?_⟩;by_cases hz:z∈ns
  ·obtain ⟨i,hi⟩:=List.getElem?_of_mem hz;have hi':i < ps.length:=by rw [← h5];exact (al_gs.mp hi).1
   have hv:=wx hn hi (aA hi');rw [hv] at dg ⊢;exact ay ⟨_,rfl,tb,_,dx,_,_,rfl,h1,T.bM,T.fj,rfl,_,rfl,pd,_,rfl,dg,q1 i _ hi (aA hi')⟩
  ·rw [oB hz];exact aE ⟨by show 1<=sizeLine;decide,q2 hz⟩
noncomputable def rG(t:Ad):Sp:=λ vs H Q E=>∃ (tb pd ll:Addr) (o:Obj) (ns:List Str) (ps:List bb) (living:List Int) (coming n:Int),vs=[.ref tb,.int n]/\TabAt t H tb pd ll o ns ps living coming/\
 (n∈living->Q (.int (living.idxOf n)) H)/\(n∉living->E (.ref t.bU) none H)
theorem zir:aB ["self", "number"] ["self", "number"] (ax pc):=by walk_at "sc"
theorem zgy(T:Txt K mg t)(F:Fun K "place_of" "Table.place_of" pc f fd):FnOk P w K mg base (CXr P w) 1 f fd ["self", "number"] (rG t):=by
 refine F.okX zir (λ vs H Q E h=>?_) (λ cdv A outer s H vs Q E hr h=>?_)
 ·obtain ⟨tb,pd,ll,o,ns,ps,living,coming,n,rfl,_⟩:=h;rfl
 ·obtain ⟨tb,pd,ll,o,ns,ps,living,coming,n,rfl,⟨⟨dx,h1⟩,h2,h3,h4,h5⟩,q1,q2⟩:=h;refine ⟨_,(ao (a8 (aQ (wv K) (pv 1) (bC K (pv 0) rfl) (by rfl)) (am (dP dR T.yM rfl (by rfl) T.nq (aa aD ae)))
   bq)
  (am (aC (bW K PySem.F.plainAttrs_list PySem.F.slot_list_index PySem.F.type_list_index kI (bC K (pv 0) rfl) (aa (pv 1) ae))))),?_⟩
  refine ⟨_,rfl,_,rfl,tb,_,dx,_,_,rfl,h1,T.bM,T.fP,rfl,ll,_,rfl,.inl (SqL.of h3),rfl,jp _,_,rfl,?_⟩;show if (!inV (.int n) (living.map V.int))=true then _ else _
  rw [zc3];by_cases hn:n∈living
  ·rw [aN hn];have hi:=List.idxOf_lt_length_of_mem hn;refine ay ⟨_,rfl,tb,_,dx,_,_,rfl,h1,T.bM,T.fP,rfl,.inl ⟨rfl,_,SqL.of h3⟩,_,rfl,ll,_,_,living.idxOf n,rfl,rfl,h3,jp _,rfl,⟨.int n,?_,gW rfl⟩,λ m z hm hz=>?_,q1 hn⟩
   ·rw [aH,aA hi,List.getElem_idxOf hi];rfl
   ·rw [aH] at hz;cases hy:living[m]? with
    | none=>rw [hy] at hz;cases hz
    | some y=>
     rw [hy] at hz;cases hz;exact beq_eq_false_iff_ne.mpr (vB hm hy)
  ·rw [aK hn];exact aE ⟨by show 1<=sizeLine;decide,q2 hn⟩
noncomputable def xV(t:Ad):Sp:=λ vs H Q _=>∃ (tb pd ll:Addr) (o:Obj) (ns:List Str) (ps:List bb) (living:List Int) (coming:Int),vs=[.ref tb]/\TabAt t H tb pd ll o ns ps living coming/\
 ∀ (l:Addr) (H':Hp),Same H H'->H l=none->H' l=some (.lst (living.map V.int))->Q (.ref l) H'
theorem zio:aB ["self"] ["self"] (ax o8):=by walk_at "sc"
theorem zgv(T:Txt K mg t)(F:Fun K "numbers" "Table.numbers" o8 f fd):FnOk P w K mg base CX0 1 f fd ["self"] (xV t):=by
 refine F.ok zio (λ vs H Q E h=>?_) (λ cdv A outer s H vs Q E hr h=>?_)
 ·obtain ⟨tb,pd,ll,o,ns,ps,living,coming,rfl,_⟩:=h;rfl
 ·obtain ⟨tb,pd,ll,o,ns,ps,living,coming,rfl,⟨⟨dx,h1⟩,h2,h3,h4,h5⟩,q⟩:=h;refine ⟨_,(am (aC (iV (tZ K) (by rfl) T.ju PyProof.Rows.Boot.«list» (aa (bC K (pv 0) rfl) ae)))),?_⟩;exact ⟨_,rfl,tb,_,dx,_,_,rfl,h1,T.bM,T.fP,rfl,ll,_,rfl,.inl (SqL.of h3),λ l hl=>q l _ (Same.new hl) hl ah⟩
noncomputable def jI(t:Ad):Sp:=λ vs H Q E=>∃ (tb pd ll:Addr) (o:Obj) (ns:List Str) (ps:List bb) (living:List Int) (coming:Int) (z:Str),vs=[.ref tb,.str z]/\TabAt t H tb pd ll o ns ps living coming/\ns.Nodup/\
 (∀ (i:Nat) (q:bb),ns[i]?=some z->ps[i]?=some q->Q (.str (fK q.2.2.col)) H)/\(z∉ns->E (.ref t.cr) none H)
theorem zim:aB ["self", "name"] ["self", "name"] (ax o4):=by walk_at "sc"
theorem zfD(T:Txt K mg t)(CP:bn P w K mg base (CXr P w) 1 t.aV "part" ["self", "name"] (xW t))(CB:bn P w K mg base CX0 1 t.aW "bits" ["self"] (rh t))(CW:bn P w K mg base CX0 2 t.bE "bits" ["self"] (xp t))(F:Fun K "bits" "Table.bits" o4 f fd):FnOk P w K mg base (CXr P w) 3 f fd ["self", "name"] (jI t):=by
 obtain ⟨zkP,zk7,sL,vE,tm⟩:=CP;obtain ⟨zkA,zkS,zD,zd4,zan⟩:=CB;obtain ⟨zkF,zkX,zN,zd9,zas⟩:=CW;refine F.okX zim (λ vs H Q E h=>?_) (λ cdv A outer s H vs Q E hr h=>?_)
 ·obtain ⟨tb,pd,ll,o,ns,ps,living,coming,z,rfl,_⟩:=h;rfl
 ·obtain ⟨tb,pd,ll,o,ns,ps,living,coming,z,rfl,TA,hn,q1,q2⟩:=h;obtain ⟨⟨dx,h1⟩,h2,h3,h4,h5⟩:=id TA;refine ⟨_,(am (aC (PE.alt (c8 (bJ (pv 0) T.bM vE sL (hr.mono (by decide)) tm .nil dj (aa (pv 1) ae)) T.dm zd4 zD (hr.mono (by decide)) zan .nil az) (c8 (bJ (pv 0) T.bM vE sL (hr.mono (by decide)) tm .nil dj (aa (pv 1) ae)) T.dF zd9 zN (hr.mono (by decide)) zas .nil az)))),?_⟩;by_cases hz:z∈ns
  ·obtain ⟨i,hi⟩:=List.getElem?_of_mem hz;have hi':i < ps.length:=by rw [← h5];exact (al_gs.mp hi).1
   have eq:ps[i]?=some ps[i]:=aA hi';have hat:=h4.1 _ (List.getElem_mem hi');have q1:=q1 i _ hi eq;have only:∀ (j:Nat) (q':bb),ns[j]?=some z->ps[j]?=some q'->q'=ps[i]:=λ j q' e1 e2=>by
    cases eZ hn e1 hi;rw [eq] at e2;exact (Option.some.inj e2).symm
   generalize ps[i]=qq at hat q1 only;obtain ⟨a,fp,pm⟩:=qq;cases pm with
   | num xs=>
    obtain ⟨⟨dc,hC⟩,_⟩:=hat;refine .inl ⟨_,rfl,tb,dx,_,rfl,h1,rfl,_,rfl,tb,pd,ll,o,ns,ps,living,coming,z,rfl,TA,hn,λ j q' e1 e2=>?_,λ h=>absurd hz h⟩;cases only j q' e1 e2;exact ⟨a,dc,_,rfl,hC,rfl,a,xs,rfl,⟨dc,hC⟩,q1⟩
   | wrd ws ns'=>
    obtain ⟨c,d,W,_⟩:=hat;obtain ⟨⟨dw,hw⟩,_⟩:=id W;refine .inr ⟨_,rfl,tb,dx,_,rfl,h1,rfl,_,rfl,tb,pd,ll,o,ns,ps,living,coming,z,rfl,TA,hn,λ j q' e1 e2=>?_,λ h=>absurd hz h⟩;cases only j q' e1 e2;exact ⟨a,dw,_,rfl,hw,rfl,a,c,d,ws,ns',rfl,W,q1⟩
  ·exact .inl ⟨_,rfl,tb,dx,_,rfl,h1,rfl,_,rfl,tb,pd,ll,o,ns,ps,living,coming,z,rfl,TA,hn,λ j q' e1 _=>absurd (aS e1) hz,q2⟩
noncomputable def eC(ps:List bb)(xs:List V):Bool:=decide (xs.length=ps.length) && ((ps.zip xs).all λ q=>q.1.2.2.takes q.2)
theorem kS(h:ns.length=ps.length)(hi:i < ps.length):∃ k,(bS ns ps)[i]?=some (k,.ref ps[i].1):=by
 have h1:i < ns.length:=by omega
 refine ⟨.inr ns[i],?_⟩;unfold bS;rw [aH,List.getElem?_zip_eq_some (z:=(ns[i],ps[i])) |>.mpr ⟨aA h1,aA hi⟩];rfl
theorem kT(h:ns.length=ps.length):(bS ns ps).length=ps.length:=by
 unfold bS;rw [aj,List.length_zip];omega
theorem PM.cls(h:p.at t H a fp):(∃ dx fs,H a=some (.ins t.aW dx fs)/\p.takes=valV')\/(∃ dx fs,H a=some (.ins t.bE dx fs)/\p.takes=gq):=by
 cases p with
 | num xs=>
  obtain ⟨⟨dx,h⟩,_⟩:=h;exact .inl ⟨_,_,h,rfl⟩
 | wrd ws ns=>
  obtain ⟨c,d,⟨⟨dx,h1⟩,_⟩,_⟩:=h;exact .inr ⟨_,_,h1,rfl⟩
noncomputable def xD(K:W.Frag)(t:Ad):Sp:=λ vs H Q E=>∃ (tb pd ll:Addr) (o:Obj) (ns:List Str) (ps:List bb) (living:List Int) (coming:Int) (l:Addr) (xs:List V),vs=[.ref tb,.ref l]/\TabAt t H tb pd ll o ns ps living coming/\H l=some (.lst xs)/\(∀ x∈xs,okT x)/\xs.length<=100/\ps.length<=100/\living.length < 64/\
 (eC ps xs=true->∀ H',Same H H'->Q .non H')/\(eC ps xs=false->∀ H',Same H H'->E (.ref t.cp) none H')
theorem vR:(["part", "value"]:List Str).Nodup:=by decide +kernel
theorem zin:aB ["self", "values"] ["self", "values"] (ax o5):=by walk_at "sc"
theorem zf2(T:Txt K mg t)(me:Cal P w K mg base CX0 5 "takes" ["part", "value"] (ya K t))(F:Fun K "check_put" "Table.check_put" o5 f fd):FnOk P w K mg base (CXr P w) 6 f fd ["self", "values"] (xD K t):=by
 refine F.okX zin (λ vs H Q E h=>?_) (λ cdv A outer s H vs Q E hr h=>?_)
 ·obtain ⟨tb,pd,ll,o,ns,ps,living,coming,l,xs,rfl,_⟩:=h;rfl
 ·obtain ⟨tb,pd,ll,o,ns,ps,living,coming,l,xs,rfl,TA,hl,hx,hxl,hpl,h64,q1,q2⟩:=h;obtain ⟨⟨dx,h1⟩,h2,h3,h4,h5⟩:=id TA;have e64:(living.map V.int).length=living.length:=aj _;have ekl:=kT h5;refine ⟨_,(ao (a8 (aQ c6 (aR (cJ K) (by rfl) T.bH PyProof.Rows.Boot.«len» (aa (bC K (pv 0) rfl) ae)) (bo T.u6) (aP _)) (am (dP dR T.r9 rfl (by rfl) T.kj (aa aD ae)))
   bq)
  (ao (a8 (aQ dY (aR (cJ K) (by rfl) T.bH PyProof.Rows.Boot.«len» (aa (pv 1) ae)) (aR zaU (by rfl) T.bH PyProof.Rows.Boot.«len» (aa (bC K (pv 0) rfl) ae)) (aP _)) (am (dP dR T.r9 rfl (by rfl) T.kj (aa aD ae)))
   bq)
  (am (a8 (fG (fg (aR (mW K rfl) (by rfl) T.kJ PyProof.Rows.Boot.«all» (aa (cL (N:=["part", "value"]) (fr:=[none,none]) ⟨rfl,rfl,rfl,rfl,rfl,rfl⟩ rfl (wF K (by rfl) T.kM (aa (kX (bC K (pv 0) rfl)) (aa (pv 1) ae)))
    (λ C fp s H=>⟨gE K (n:=2) rfl (dC (aU (i:=0) vR rfl (Or.inl rfl)) (dC (aU (i:=1) vR rfl (Or.inl rfl)) gF)),bZ,(me.pe hr az (aa (pv 0) (aa (pv 1) ae)))⟩)) ae)))) (am (dP dR T.r9 rfl (by rfl) T.kj (aa aD ae)))
   bq)))),?_⟩
  refine ⟨_,rfl,tb,_,dx,_,_,rfl,h1,T.bM,T.fP,rfl,ll,_,rfl,.inl (SqL.of h3),rfl,_,rfl,?_⟩;rw [dec_int,e64,aK (show ¬ (living.length:Int)=64 by omega)];refine ay ⟨_,rfl,l,_,rfl,.inl (SqL.of hl),_,rfl,tb,_,dx,_,_,rfl,h1,T.bM,T.fj,rfl,pd,_,rfl,.inr ⟨o,h2⟩,rfl,_,rfl,?_⟩;show if (!decide (V.int (xs.length:Int)=V.int ((bS ns ps).length:Int)))=true then _ else _
  rw [dec_int,ekl];by_cases hc:xs.length=ps.length
  ·rw [aN (show (xs.length:Int)=(ps.length:Int) by omega)];refine ay ⟨_,rfl,tb,_,dx,_,_,rfl,h1,T.bM,T.fj,rfl,pd,_,rfl,.inr ⟨o,h2⟩,λ vw hvw=>⟨_,rfl,vw,pd,o,bS ns ps,l,xs,rfl,ah,?_,SqL.of ?_,?_⟩⟩
   ·rw [ag (aF h2 hvw)];exact h2
   ·rw [ag (aF hl hvw)];exact hl
   have s1:Same H (upd H vw (d9 vw pd)):=Same.new hvw;generalize upd H vw (d9 vw pd)=H1 at s1;refine m6 (n:=ps.length) (λ i acc H'=>Same H H'/\acc=((ps.zip xs).take i).map λ q=>V.bl (q.1.2.2.takes q.2)) ⟨s1,rfl⟩ ?_ (Nat.le_of_lt (br (by omega))) ?_ ?_
   ·rintro i acc H' hi ⟨s2,rfl⟩;refine ⟨by rw [aj,bc];omega,λ h=>⟨s2 _ _ h2,by rw [ekl];exact h,xs,_,SqL.of (s2 _ _ hl),aA (by omega)⟩,λ h=>⟨s2 _ _ h2,xs,SqL.of (s2 _ _ hl),.inl (by rw [ekl];exact h)⟩⟩
   ·rintro i x acc H2 H3 hi ⟨s2,rfl⟩ ⟨T0,hT0,rfl,hy⟩;obtain ⟨k,y1,y2,e1,e2,rfl⟩:=hy xs (SqL.of (s2 _ _ hl));obtain ⟨k',ek⟩:=kS h5 hi;rw [ek] at e1;cases e1;have hxi:i < xs.length:=by omega
    rw [aA hxi] at e2;cases e2;have s3:Same H (upd H2 T0 (.tup [V.ref ps[i].1,xs[i]])):=aM s2 hT0;have hat:=(h4.same s3).1 _ (List.getElem_mem hi);have et:((ps.zip xs).take (i+1)).map (λ q=>V.bl (q.1.2.2.takes q.2))=((ps.zip xs).take i).map (λ q=>V.bl (q.1.2.2.takes q.2))++[V.bl (ps[i].2.2.takes xs[i])]:=by
     rw [List.take_add_one,List.getElem?_zip_eq_some (z:=(ps[i],xs[i])) |>.mpr ⟨aA hi,aA hxi⟩,aJ];rfl
    refine ⟨T0,_,rfl,SqT.of ah,rfl,_,_,rfl,_,_,rfl,rfl,(Wk.set rfl).trans (Wk.set rfl),tT ⟨_,rfl,_,rfl,ps[i].1,xs[i],rfl,hx _ (List.getElem_mem hxi),?_⟩⟩;rcases PM.cls hat with ⟨d1,f1,hc1,ht⟩ | ⟨d1,f1,hc1,ht⟩
    ·exact .inl ⟨⟨d1,f1,hc1⟩,λ H4 s4=>cw hi ⟨s3.trans s4,by rw [et,ht]⟩⟩
    ·exact .inr ⟨⟨d1,f1,hc1⟩,λ H4 s4=>cw hi ⟨s3.trans s4,by rw [et,ht]⟩⟩
   ·rintro acc H2 ⟨s2,rfl⟩ b hb;have ez:(ps.zip xs).length=ps.length:=by rw [List.length_zip];omega
    refine ⟨b,(ps.zip xs).map λ q=>q.1.2.2.takes q.2,rfl,.of ?_,_,rfl,?_⟩
    ·rw [ah,← ez,bd,List.map_map];rfl
    have s3:=aM (o:=.lst (((ps.zip xs).take ps.length).map λ q=>V.bl (q.1.2.2.takes q.2))) s2 hb;rw [List.all_map];have eg:eC ps xs=(ps.zip xs).all (λ q=>q.1.2.2.takes q.2):=by unfold eC;rw [aN hc];rfl
    show if (!((ps.zip xs).all (λ q=>q.1.2.2.takes q.2)))=true then _ else _
    rw [← eg];cases hg:eC ps xs with
    | true=>exact ay (q1 hg _ s3)
    | false=>exact aE ⟨by show 1<=sizeLine;decide,q2 hg _ s3⟩
  ·rw [aK (show ¬ (xs.length:Int)=(ps.length:Int) by omega)];refine aE ⟨by show 1<=sizeLine;decide,q2 ?_ _ (Same.refl _)⟩;unfold eC;rw [aK hc];rfl
noncomputable def bT:Nat->List bb->List (PM->PM)->List bb
 | i+1,q::r,f::s=>(q.1,q.2.1,f q.2.2)::bT i r s
 | _,ps,_=>ps
theorem nZ:∀ (i:Nat) (ps:List bb) (fs:List (PM->PM)),(bT i ps fs).length=ps.length
 | 0,_,_=>rfl
 | _+1,[],_=>rfl
 | _+1,_::_,[]=>rfl
 | i+1,q::r,f::s=>by show (bT i r s).length+1=_;rw [nZ];rfl
theorem n6:∀ {i:Nat} {ps:List bb} {fs:List (PM->PM)} {q:bb} {f:PM->PM},ps[i]?=some q->fs[i]?=some f->(bT i ps fs)[i]?=some q/\bT (i+1) ps fs=(bT i ps fs).set i (q.1,q.2.1,f q.2.2)
 | 0,[],_,_,_,h,_=>by cases h
 | 0,q::r,[],_,_,_,h=>by cases h
 | 0,q::r,f::s,_,_,h1,h2=>by
  cases h1;cases h2;exact ⟨rfl,rfl⟩
 | i+1,[],_,_,_,h,_=>by cases h
 | i+1,q::r,[],_,_,_,h=>by cases h
 | i+1,q::r,f::s,q',f',h1,h2=>by
  obtain ⟨a,b⟩:=n6 (i:=i) (ps:=r) (fs:=s) h1 h2;refine ⟨a,?_⟩;show _::bT (i+1) r s=(_::bT i r s).set (i+1) _;rw [b];rfl
theorem kH:∀ (i:Nat) (ps:List bb) (fs:List (PM->PM)),(bT i ps fs).map (λ q=>(q.1,q.2.1))=ps.map (λ q=>(q.1,q.2.1))
 | 0,_,_=>rfl
 | _+1,[],_=>rfl
 | _+1,_::_,[]=>rfl
 | i+1,q::r,f::s=>by show _::(bT i r s).map _=_::_;rw [kH]
noncomputable def FP(tb ll:Addr)(ps:List bb):List Addr:=tb::ll::(ps.map (·.2.1)).flatten
theorem uS{ps':List bb}(h:ps'.map (λ q=>(q.1,q.2.1))=ps.map (λ q=>(q.1,q.2.1))):(ps'.map (·.2.1)).flatten=(ps.map (·.2.1)).flatten:=by
 have:=congrArg (List.map Prod.snd) h;rw [List.map_map,List.map_map] at this;exact congrArg List.flatten this
theorem kU:∀ {ns:List Str} {ps ps':List bb},ps'.map (λ q=>(q.1,q.2.1))=ps.map (λ q=>(q.1,q.2.1))->bS ns ps'=bS ns ps
 | [],_,_,_=>rfl
 | _::_,[],[],_=>rfl
 | _::_,[],_::_,h=>by cases h
 | _::_,_::_,[],h=>by cases h
 | n::r,q::ps,q' :: ps',h=>by
  obtain ⟨h1,h2⟩:=List.cons.inj h;show (Sum.inr n,V.ref q'.1)::bS r ps'=(Sum.inr n,V.ref q.1)::bS r ps;rw [kU h2,(Prod.mk.inj h1).1]
theorem uM:∀ {l:List (List Addr)} {i j:Nat} {a b:List Addr} {x:Addr},l.flatten.Nodup->l[i]?=some a->l[j]?=some b->i≠j->x∈a->x∈b->False
 | [],_,_,_,_,_,_,h,_,_,_,_=>by cases h
 | c::r,0,0,_,_,_,_,_,_,h,_,_=>h rfl
 | c::r,0,j+1,a,b,x,hn,h1,h2,_,ha,hb=>by
  cases h1;rw [List.flatten_cons] at hn;exact (List.nodup_append.mp hn).2.2 x ha x (List.mem_flatten.mpr ⟨b,aS (show r[j]?=some b from h2),hb⟩) rfl
 | c::r,i+1,0,a,b,x,hn,h1,h2,_,ha,hb=>by
  cases h2;rw [List.flatten_cons] at hn;exact (List.nodup_append.mp hn).2.2 x hb x (List.mem_flatten.mpr ⟨a,aS (show r[i]?=some a from h1),ha⟩) rfl
 | c::r,i+1,j+1,a,b,x,hn,h1,h2,hne,ha,hb=>by
  rw [List.flatten_cons] at hn;exact uM (l:=r) (i:=i) (j:=j) (List.nodup_append.mp hn).2.1 h1 h2 (λ z=>hne (by rw [z])) ha hb
theorem TabAt.upd{o:Obj}(h:TabAt t H tb pd ll o ns ps living coming){pm:PM}(hi:ps[i]?=some q)(k:KpL q.2.1 H H3)(hat:pm.at t H3 q.1 q.2.1):TabAt t H3 tb pd ll o ns (ps.set i (q.1,q.2.1,pm)) living coming:=by
 obtain ⟨⟨dx,h1⟩,h2,h3,⟨h4,h4'⟩,h5⟩:=h;have hq:=h4 q (aS hi);have ead:(ps.set i (q.1,q.2.1,pm)).map (λ q=>(q.1,q.2.1))=ps.map (λ q=>(q.1,q.2.1)):=by
  rw [List.map_set];apply List.ext_getElem?;intro j;rw [List.getElem?_set];by_cases e:i=j
  ·subst e;have hl:=(al_gs.mp hi).1;rw [if_pos rfl,if_pos (by rw [aj];exact hl),aH,hi];rfl
  ·rw [if_neg e]
 have n1:tb∉q.2.1:=λ hb=>by
  rcases PM.kind hq hb with ⟨C,d,fs,e,hl⟩ | ⟨kvs,e⟩
  ·rw [h1] at e;have:=congrArg List.length (HO.ins.inj (Option.some.inj e)).2.2;have:3=fs.length:=this;omega
  ·rw [h1] at e;cases e
 have n2:pd∉q.2.1:=λ hb=>by
  rcases PM.kind hq hb with ⟨C,d,fs,e,hl⟩ | ⟨kvs,e⟩ <;> rw [h2] at e <;> cases e
 have n3:ll∉q.2.1:=λ hb=>by
  rcases PM.kind hq hb with ⟨C,d,fs,e,hl⟩ | ⟨kvs,e⟩ <;> rw [h3] at e <;> cases e
 refine ⟨⟨dx,k _ _ n1 h1⟩,by rw [kU ead];exact k _ _ n2 h2,k _ _ n3 h3,⟨λ q' hq'=>?_,by rw [uS ead];exact h4'⟩,by rw [List.length_set];exact h5⟩;obtain ⟨j,hj⟩:=List.getElem?_of_mem hq';rw [List.getElem?_set] at hj;by_cases e:i=j
 ·rw [if_pos e] at hj
  split at hj
  ·cases hj;exact hat
  ·cases hj
 ·rw [if_neg e] at hj;refine PM.keep (h4 q' (aS hj)) k λ b hb hb2=>?_;exact uM h4' (i:=j) (j:=i) (a:=q'.2.1) (b:=q.2.1) (by rw [aH,hj];rfl) (by rw [aH,hi];rfl) (Ne.symm e) hb hb2
theorem TabAt.apart{b:Addr}{o:Obj}(h:TabAt t H tb pd ll o ns ps living coming)(hq:q∈ps)(hb:b∈q.2.1)(hz:b=tb\/b=ll\/b=pd):False:=by
 obtain ⟨⟨dx,h1⟩,h2,h3,⟨h4,h4'⟩,h5⟩:=h;rcases PM.kind (h4 q hq) hb with ⟨C,d,fs,e,hl⟩ | ⟨kvs,e⟩
 ·rcases hz with rfl | rfl | rfl
  ·rw [h1] at e;have:3=fs.length:=congrArg List.length (HO.ins.inj (Option.some.inj e)).2.2;omega
  ·rw [h3] at e;cases e
  ·rw [h2] at e;cases e
 ·rcases hz with rfl | rfl | rfl
  ·rw [h1] at e;cases e
  ·rw [h3] at e;cases e
  ·rw [h2] at e;cases e
theorem zhH(a b c v:V):cy "coming" v ([("parts", a),("living", b),("coming", c)]:List (Str × V))=([("parts", a),("living", b),("coming", v)]:List (Str × V)):=by
 unfold cy;rw [if_neg (by decide)];unfold cy;rw [if_neg (by decide)];unfold cy;rw [if_pos rfl]
theorem kt(xs:List OI)(o:OI):ci xs xs.length o=xs++[o]:=by
 unfold ci;rw [bd,List.drop_length]
theorem kO{o:OI}(h:okC xs=true)(hl:xs.length < 64)(ho:okV o=true):okC (xs++[o])=true:=
 wn (by rw [aO,cn];omega) (by rw [List.all_append,kN h,List.all_cons,ho];rfl)
theorem oA(h:valV' x=true):x=ov (voi x)/\okV (voi x)=true:=by
 cases x <;> first | exact ⟨rfl,rfl⟩ | exact ⟨rfl,h⟩ | cases h
theorem lH(h:gq x=true):x = .non\/∃ z,x = .str z:=by
 cases x <;> first | exact .inl rfl | exact .inr ⟨_,rfl⟩ | cases h
theorem vZ(x:V)(h:ws.length<=1000):okV (cA ws x).2=true:=by
 cases x with
 | str z=>
  show okV (if z∈ws then (ws,some (ws.idxOf z:Int)) else (ws++[z],some (ws.length:Int))).2=true
  split
  ·have:=List.idxOf_lt_length_of_mem ‹z∈ws›;show decide (_/\_)=true;exact aN (by omega)
  ·show decide (_/\_)=true;exact aN (by omega)
 | _=>rfl
noncomputable def jK(K:W.Frag)(t:Ad):Sp:=λ vs H Q E=>∃ (tb pd ll:Addr) (o:Obj) (ns:List Str) (ps:List bb) (living:List Int) (coming:Int) (l:Addr) (xs:List V),vs=[.ref tb,.ref l]/\TabAt t H tb pd ll o ns ps living coming/\H l=some (.lst xs)/\l≠ll/\(∀ x∈xs,okT x)/\xs.length<=100/\ps.length<=100/\living.length < 64/\(∀ q∈ps,q.2.2.ok/\q.2.2.col.length=living.length)/\
 (eC ps xs=true->∀ H',KpL (FP tb ll ps) H H'->TabAt t H' tb pd ll o ns (bT ps.length ps (xs.map PM.put)) (living++[coming]) (coming+1)->Q (.int coming) H')/\(eC ps xs=false->∀ H',Same H H'->E (.ref t.cp) none H')
theorem sc_Table_put:aB ["self", "values", "part", "value", "number"] ["self", "values"] (ax pf):=by walk_at "sc"
theorem zfG(T:Txt K mg t)(CK:bn P w K mg base (CXr P w) 6 t.aV "check_put" ["self", "values"] (xD K t))(CP:bn P w K mg base (CXr P w) 12 t.aW "put" ["self", "row", "value"] (rJ t))(CW:bn P w K mg base CX0 13 t.bE "put" ["self", "row", "word"] (xt t))(F:Fun K "put" "Table.put" pf f fd):FnOk P w K mg base (CXr P w) 14 f fd ["self", "values"] (jK K t):=by
 obtain ⟨zkK,zk2,zS,zee,zax⟩:=CK;obtain ⟨zkC,zkU,zK,zd6,zap⟩:=CP;obtain ⟨zkH,zkZ,zP,zeb,zau⟩:=CW;refine F.okX sc_Table_put (λ vs H Q E h=>?_) (λ cdv A outer s H vs Q E hr h=>?_)
 ·obtain ⟨tb,pd,ll,o,ns,ps,living,coming,l,xs,rfl,_⟩:=h;rfl
 ·obtain ⟨tb,pd,ll,o,ns,ps,living,coming,l,xs,rfl,TA,hl,nll,hx,hxl,hpl,h64,hok,q1,q2⟩:=h;obtain ⟨⟨dx,h1⟩,h2,h3,h4,h5⟩:=id TA;have ekl:=kT h5;have nlF:l∉FP tb ll ps:=λ hb=>by
   unfold FP at hb;rcases al_mc.mp hb with z | hb
   ·rw [z,h1] at hl;cases hl
   rcases al_mc.mp hb with z | hb
   ·exact nll z
   obtain ⟨fp,hfp,hb⟩:=List.mem_flatten.mp hb;obtain ⟨q,hq,rfl⟩:=List.mem_map.mp hfp;rcases PM.kind (h4.1 q hq) hb with ⟨_,_,_,e,_⟩ | ⟨_,e⟩ <;> rw [hl] at e <;> cases e
  refine ⟨_,(ao (bP (bJ (pv 0) T.bM zee zS (hr.mono (by decide)) zax .nil dj (aa (pv 1) ae)))
  (ao (PS.nox (dO PassesOwn.never rfl (wF K (by rfl) T.kM (aa (kX (bC K (pv 0) rfl)) (aa (pv 1) ae))) (gE K (n:=2) rfl (dC (aU (i:=2) sc_Table_put.nd rfl (Or.inl rfl)) (dC (aU (i:=3) sc_Table_put.nd rfl (Or.inl rfl)) gF)))
   (am (bP (PE.alt (bJ (pv 2) T.dm zd6 zK (hr.mono (by decide)) zap .nil cx (aa (aR (cJ K) (by rfl) T.bH PyProof.Rows.Boot.«len» (aa (bC K (pv 0) rfl) ae)) (aa (pv 3) ae))) (bJ (pv 2) T.dF zeb zP (hr.mono (by decide)) zau .nil az (aa (aR (cJ K) (by rfl) T.bH PyProof.Rows.Boot.«len» (aa (bC K (pv 0) rfl) ae)) (aa (pv 3) ae))))))))
  (ao (aI (i:=4) sc_Table_put.nd rfl (Or.inl rfl) (bC K (pv 0) rfl))
  (ao (bP (bW K PySem.F.plainAttrs_list PySem.F.slot_list_append PySem.F.type_list_append f9 (bC K (pv 0) rfl) (aa (pv 4) ae)))
  (ao (oM (pv 0) aq nE)
  (am (aC (pv 4)))))))),?_⟩
  refine ⟨_,rfl,tb,dx,_,rfl,h1,rfl,_,rfl,tb,pd,ll,o,ns,ps,living,coming,l,xs,rfl,TA,hl,hx,hxl,hpl,h64,λ good H1 s1=>?_,q2⟩;have q1:=q1 good;obtain ⟨hc,hg⟩:xs.length=ps.length/\(ps.zip xs).all (λ q=>q.1.2.2.takes q.2)=true:=by
   unfold eC at good;rw [Bool.and_eq_true] at good;exact ⟨of_decide_eq_true good.1,good.2⟩
  have TA1:=TA.same s1;have k1:KpL (FP tb ll ps) H H1:=KpL.of s1;refine ⟨_,rfl,tb,_,dx,_,_,rfl,s1 _ _ h1,T.bM,T.fj,rfl,pd,_,rfl,.inr ⟨o,s1 _ _ h2⟩,λ vw hvw=>⟨_,rfl,vw,pd,o,bS ns ps,l,xs,rfl,ah,?_,SqL.of ?_,?_⟩⟩
  ·rw [ag (aF (s1 _ _ h2) hvw)];exact s1 _ _ h2
  ·rw [ag (aF (s1 _ _ hl) hvw)];exact s1 _ _ hl
  have s2:Same H (upd H1 vw (d9 vw pd)):=aM s1 hvw;generalize upd H1 vw (d9 vw pd)=H2 at s2;refine uR (n:=ps.length) (λ i σ H'=>∃ v2 v3:Option V,σ=[some (.ref tb),some (.ref l),v2,v3,none]/\KpL (FP tb ll ps) H H'/\TabAt t H' tb pd ll o ns (bT i ps (xs.map PM.put)) living coming) ⟨none,none,rfl,KpL.of s2,TA.same s2⟩ ?_ ?_ ?_
  ·rintro i σ H' hi ⟨v2,v3,rfl,k,TB⟩;have hd:=TB.dic;rw [kU (kH _ _ _)] at hd;have hl':=k l _ nlF hl;exact ⟨λ h=>⟨hd,by rw [ekl];exact h,xs,_,SqL.of hl',aA (by omega)⟩,λ h=>⟨hd,xs,SqL.of hl',.inl (by rw [ekl];exact h)⟩⟩
  ·rintro i x σ H3 H4 hi ⟨v2,v3,rfl,k,TB⟩ ⟨T0,hT0,rfl,hy⟩;obtain ⟨k0,y1,y2,e1,e2,rfl⟩:=hy xs (SqL.of (k l _ nlF hl));obtain ⟨k',ek⟩:=kS h5 hi;rw [ek] at e1;cases e1;have hxi:i < xs.length:=by omega
   rw [aA hxi] at e2;cases e2;have s4:Same H3 (upd H3 T0 (.tup [V.ref ps[i].1,xs[i]])):=Same.new hT0;have TC:=TB.same s4;have kc:=k.trans (KpL.of (L:=FP tb ll ps) s4);have hT4:(upd H3 T0 (.tup [V.ref ps[i].1,xs[i]])) T0=some (.tup [V.ref ps[i].1,xs[i]]):=ah;generalize upd H3 T0 (.tup [V.ref ps[i].1,xs[i]])=H4 at s4 TC kc hT4;refine ⟨T0,_,rfl,SqT.of hT4,rfl,_,_,rfl,_,_,rfl,rfl,?_⟩;have eqi:ps[i]?=some ps[i]:=aA hi;obtain ⟨m1,m2⟩:=n6 (i:=i) (ps:=ps) (fs:=xs.map PM.put) eqi (by rw [aH,aA hxi];rfl);have hat:=TC.par.1 _ (aS m1);have htk:ps[i].2.2.takes xs[i]=true:=List.all_eq_true.mp hg (ps[i],xs[i]) (aS (i:=i) (List.getElem?_zip_eq_some (z:=(ps[i],xs[i])) |>.mpr ⟨eqi,aA hxi⟩));obtain ⟨o1,o2⟩:=hok _ (List.getElem_mem hi);have hfp:∀ b∈ps[i].2.1,b∈FP tb ll ps:=λ b hb=>bp _ (bp _ (List.mem_flatten.mpr ⟨_,List.mem_map.mpr ⟨_,List.getElem_mem hi,rfl⟩,hb⟩));have fin:∀ (pm:PM) (H5:Hp),KpL ps[i].2.1 H4 H5->pm.at t H5 ps[i].1 ps[i].2.1->pm=ps[i].2.2.put xs[i]->∃ v2 v3:Option V,[some (V.ref tb),some (V.ref l),some (V.ref ps[i].1),some xs[i],none]=[some (.ref tb),some (.ref l),v2,v3,none]/\KpL (FP tb ll ps) H H5/\TabAt t H5 tb pd ll o ns (bT (i+1) ps (xs.map PM.put)) living coming:=λ pm H5 k5 a5 e5=>by
    refine ⟨_,_,rfl,kc.trans (k5.mono hfp),?_⟩;rw [m2,← e5];exact TC.upd m1 k5 a5
   obtain ⟨⟨dx4,h14⟩,_,h34,_,_⟩:=id TC;have e64:(living.map V.int).length=living.length:=aj _;generalize ps[i]=qq at hat htk o1 o2 fin;obtain ⟨a,fp,pm⟩:=qq;cases pm with
   | num ys=>
    obtain ⟨⟨dc,hC⟩,efp⟩:=hat;have o2:ys.length=living.length:=o2;obtain ⟨v1,v2'⟩:=oA htk;refine .inl ⟨_,rfl,a,dc,_,rfl,hC,rfl,_,rfl,tb,_,dx4,_,_,rfl,h14,T.bM,T.fP,rfl,ll,_,rfl,.inl (SqL.of h34),_,rfl,a,(living.length:Int),voi xs[i],ys,?_,⟨dc,hC⟩,o1,λ h=>absurd ⟨by omega,by omega⟩ h,λ _ _ _ H5 k5 C5=>?_,λ _ _ z=>?_⟩
    ·rw [e64,← v1];rfl
    ·have C5:ColAt t.aW H5 a (ci ys (living.length:Int).toNat (voi xs[i])):=C5;rw [Int.toNat_natCast,← o2,kt] at C5;have efp:fp=[a]:=efp;exact fin (.num (ys++[voi xs[i]])) H5 (KpL.one k5 (by show a∈fp;rw [efp];simp)) ⟨C5,efp⟩ rfl
    ·rw [Int.toNat_natCast,← o2,kt,kO o1 (by omega) v2'] at z;cases z
   | wrd ws ms=>
    obtain ⟨c,d,W,efp⟩:=hat;obtain ⟨o11,o12,o13⟩:=o1;have o2:ms.length=living.length:=o2;obtain ⟨⟨dw,hw⟩,_⟩:=id W;refine .inr ⟨_,rfl,a,dw,_,rfl,hw,rfl,_,rfl,tb,_,dx4,_,_,rfl,h14,T.bM,T.fP,rfl,ll,_,rfl,.inl (SqL.of h34),_,rfl,a,c,d,(living.length:Int),xs[i],ws,ms,?_,W,o11,o13,by omega,by omega,lH htk,?_,λ H5 k5 W5=>?_⟩
    ·rw [e64];rfl
    ·rw [Int.toNat_natCast,← o2,kt];exact kO o11 (by omega) (vZ xs[i] o13)
    ·rw [Int.toNat_natCast,← o2,kt] at W5;have efp:fp=[a,c,d]:=efp;exact fin (.wrd (cA ws xs[i]).1 (ms++[(cA ws xs[i]).2])) H5 (k5.mono (by intro b hb;show b∈fp;rw [efp];simp at hb ⊢;rcases hb with rfl | rfl <;> simp)) ⟨c,d,W5,efp⟩ rfl
  ·rintro σ H3 ⟨v2,v3,rfl,k,TB⟩;obtain ⟨⟨dx3,h13⟩,h23,h33,h43,h53⟩:=id TB;have n1:tb≠ll:=cZ h13 h33 (by intro z;cases z);have n2:pd≠tb:=cZ h23 h13 (by intro z;cases z);have n3:pd≠ll:=cZ h23 h33 (by intro z;cases z);refine ⟨_,rfl,tb,_,dx3,_,_,rfl,h13,T.bM,T.mB,rfl,?_⟩;refine ⟨_,rfl,tb,_,dx3,_,_,rfl,h13,T.bM,T.fP,rfl,.inl ⟨rfl,_,SqL.of h33⟩,_,rfl,ll,_,_,rfl,rfl,h33,by rw [aj];exact br (by omega),?_⟩;have h14:(upd H3 ll (.lst (living.map V.int++[V.int coming]))) tb=some (.ins t.aV dx3 [("parts", .ref pd),("living", .ref ll),("coming", .int coming)]):=by rw [ag n1];exact h13
   refine ⟨_,rfl,tb,_,dx3,_,_,rfl,h14,T.bM,T.mB,rfl,_,_,rfl,rfl,dx3,_,h14,by show 3 < 1000;decide,?_⟩;rw [zhH];refine ⟨_,rfl,q1 _ (k.trans ((KpL.put (by unfold FP;simp)).trans (KpL.put (by unfold FP;simp)))) ⟨⟨dx3,ah⟩,?_,?_,⟨λ q hq=>?_,h43.2⟩,h53⟩⟩
   ·rw [ag n2,ag n3];exact h23
   ·rw [ag n1.symm,ah,aJ];rfl
   ·refine PM.keep (L:=[ll,tb]) (h43.1 q hq) ((KpL.put (by simp)).trans (KpL.put (by simp))) λ b hb hb2=>?_;simp only [al_mc,List.not_mem_nil,or_false] at hb2;exact TB.apart hq hb (by rcases hb2 with z | z <;> simp [z])
theorem uA:∀ (l:List Int) (k:Nat),(l.map V.int).eraseIdx k=(l.eraseIdx k).map V.int
 | [],_=>rfl
 | _::_,0=>rfl
 | a::r,k+1=>by show V.int a::(r.map V.int).eraseIdx k=V.int a::(r.eraseIdx k).map V.int;rw [uA]
theorem za6(p:PM):p.cells.length=p.col.length:=by cases p <;> exact aj _
theorem za5(h:k < p.col.length):p.cells[k]?=some (p.cells.getD k .non):=by
 have h:k < p.cells.length:=by rw [za6];exact h
 rw [aA h,List.getD_eq_getElem?_getD,aA h];rfl
noncomputable def jJ(t:Ad):Sp:=λ vs H Q E=>∃ (tb pd ll:Addr) (o:Obj) (ns:List Str) (ps:List bb) (living:List Int) (coming n:Int),vs=[.ref tb,.int n]/\TabAt t H tb pd ll o ns ps living coming/\ps.length<=100/\living.length<=64/\(∀ q∈ps,q.2.2.ok/\q.2.2.col.length=living.length)/\
 (n∉living->E (.ref t.bU) none H)/\(n∈living->∀ H',KpL (FP tb ll ps) H H'->TabAt t H' tb pd ll o ns (bT ps.length ps (List.replicate ps.length (PM.drop (living.idxOf n)))) (living.eraseIdx (living.idxOf n)) coming->Q .non H')
theorem sc_Table_drop:aB ["self", "number", "place", "part"] ["self", "number"] (ax o6):=by walk_at "sc"
theorem zfE(T:Txt K mg t)(CL:bn P w K mg base (CXr P w) 1 t.aV "place_of" ["self", "number"] (rG t))(CD:bn P w K mg base (CXr P w) 12 t.aW "drop" ["self", "row"] (rp t))(CW:bn P w K mg base CX0 13 t.bE "drop" ["self", "row"] (xq t))(F:Fun K "drop" "Table.drop" o6 f fd):FnOk P w K mg base (CXr P w) 14 f fd ["self", "number"] (jJ t):=by
 obtain ⟨zbK,zbS,mr,nQ,mP⟩:=CL;obtain ⟨zkB,zkT,zE,zd5,zao⟩:=CD;obtain ⟨zkG,zkY,zO,zea,zat⟩:=CW;refine F.okX sc_Table_drop (λ vs H Q E h=>?_) (λ cdv A outer s H vs Q E hr h=>?_)
 ·obtain ⟨tb,pd,ll,o,ns,ps,living,coming,n,rfl,_⟩:=h;rfl
 ·obtain ⟨tb,pd,ll,o,ns,ps,living,coming,n,rfl,TA,hpl,h64,hok,q1,q2⟩:=h;obtain ⟨⟨dx,h1⟩,h2,h3,h4,h5⟩:=id TA;have ekl:=kT h5;refine ⟨_,(ao (aI (i:=2) sc_Table_drop.nd rfl (Or.inl rfl) (bJ (pv 0) T.bM nQ mr (hr.mono (by decide)) mP .nil dj (aa (pv 1) ae)))
  (ao (PS.nox (dO PassesOwn.never rfl (wD (kX (bC K (pv 0) rfl))) (aU (i:=3) sc_Table_drop.nd rfl (Or.inl rfl))
   (am (bP (PE.alt (bJ (pv 3) T.dm zd5 zE (hr.mono (by decide)) zao .nil cx (aa (pv 2) ae)) (bJ (pv 3) T.dF zea zO (hr.mono (by decide)) zat .nil az (aa (pv 2) ae)))))))
  (am (bP (bW K PySem.F.plainAttrs_list PySem.F.slot_list_pop PySem.F.type_list_pop vK (bC K (pv 0) rfl) (aa (pv 2) ae)))))),?_⟩
  refine ⟨_,rfl,tb,dx,_,rfl,h1,rfl,_,rfl,tb,pd,ll,o,ns,ps,living,coming,n,rfl,TA,λ hn=>?_,q1⟩;have q2:=q2 hn;have hk:=List.idxOf_lt_length_of_mem hn;generalize living.idxOf n=k at q2 hk;refine ⟨_,rfl,tb,_,dx,_,_,rfl,h1,T.bM,T.fj,rfl,pd,_,rfl,.inr ⟨o,h2⟩,λ vw hvw=>⟨vw,pd,o,bS ns ps,rfl,ah,?_,?_⟩⟩
  ·rw [ag (aF h2 hvw)];exact h2
  have s2:Same H (upd H vw (d9 vw pd)):=Same.new hvw;generalize upd H vw (d9 vw pd)=H2 at s2;refine uR (n:=ps.length) (λ i σ H'=>∃ v3:Option V,σ=[some (.ref tb),some (.int n),some (.int k),v3]/\KpL (FP tb ll ps) H H'/\TabAt t H' tb pd ll o ns (bT i ps (List.replicate ps.length (PM.drop k))) living coming) ⟨none,rfl,KpL.of s2,TA.same s2⟩ ?_ ?_ ?_
  ·rintro i σ H' hi ⟨v3,rfl,kk,TB⟩;have hd:=TB.dic;rw [kU (kH _ _ _)] at hd;exact ⟨λ h=>⟨hd,by rw [ekl];exact h⟩,λ h=>⟨hd,by rw [ekl];exact h⟩⟩
  ·rintro i x σ H3 H4 hi ⟨v3,rfl,kk,TC⟩ ⟨rfl,k0,e1⟩;obtain ⟨k',ek⟩:=kS h5 hi;rw [ek] at e1;cases e1;have eqi:ps[i]?=some ps[i]:=aA hi;obtain ⟨m1,m2⟩:=n6 (i:=i) (ps:=ps) (fs:=List.replicate ps.length (PM.drop k)) eqi (by rw [List.getElem?_replicate,if_pos hi]);have hat:=TC.par.1 _ (aS m1);obtain ⟨o1,o2⟩:=hok _ (List.getElem_mem hi);have hfp:∀ b∈ps[i].2.1,b∈FP tb ll ps:=λ b hb=>bp _ (bp _ (List.mem_flatten.mpr ⟨_,List.mem_map.mpr ⟨_,List.getElem_mem hi,rfl⟩,hb⟩));have fin:∀ (pm:PM) (H5:Hp),KpL ps[i].2.1 H4 H5->pm.at t H5 ps[i].1 ps[i].2.1->pm=ps[i].2.2.drop k->∃ v3:Option V,[some (V.ref tb),some (V.int n),some (V.int k),some (V.ref ps[i].1)]=[some (.ref tb),some (.int n),some (.int k),v3]/\KpL (FP tb ll ps) H H5/\TabAt t H5 tb pd ll o ns (bT (i+1) ps (List.replicate ps.length (PM.drop k))) living coming:=λ pm H5 k5 a5 e5=>by
    refine ⟨_,rfl,kk.trans (k5.mono hfp),?_⟩;rw [m2,← e5];exact TC.upd m1 k5 a5
   generalize ps[i]=qq at hat o1 o2 fin;obtain ⟨a,fp,pm⟩:=qq;cases pm with
   | num ys=>
    obtain ⟨⟨dc,hC⟩,efp⟩:=hat;have o2:ys.length=living.length:=o2;have efp:fp=[a]:=efp;exact .inl ⟨_,rfl,a,dc,_,rfl,hC,rfl,_,rfl,a,(k:Int),ys,rfl,⟨dc,hC⟩,o1,λ h=>absurd ⟨by omega,by omega⟩ h,λ _ _ H5 k5 C5=>fin (.num (ys.eraseIdx k)) H5 (KpL.one k5 (by show a∈fp;rw [efp];simp)) ⟨C5,efp⟩ rfl⟩
   | wrd ws ms=>
    obtain ⟨c,d,W,efp⟩:=hat;obtain ⟨o11,o12,o13⟩:=o1;have o2:ms.length=living.length:=o2;have efp:fp=[a,c,d]:=efp;obtain ⟨⟨dw,hw⟩,_⟩:=id W;exact .inr ⟨_,rfl,a,dw,_,rfl,hw,rfl,_,rfl,a,c,d,(k:Int),ws,ms,rfl,W,o11,by omega,by omega,λ H5 k5 W5=>fin (.wrd ws (ms.eraseIdx k)) H5 (KpL.one k5 (by show c∈fp;rw [efp];simp)) ⟨c,d,W5,efp⟩ rfl⟩
  ·rintro σ H3 ⟨v3,rfl,kk,TB⟩;obtain ⟨⟨dx3,h13⟩,h23,h33,h43,h53⟩:=id TB;have n1:tb≠ll:=cZ h13 h33 (by intro z;cases z);have n3:pd≠ll:=cZ h23 h33 (by intro z;cases z);have el:(living.map V.int).length=living.length:=aj _;have hsi:seqIndex? (k:Int) (living.map V.int).length=some k:=by
    rw [el];exact (kB (vh (n:=living.length) (r:=(k:Int)) (by omega) (by omega))).1
   refine ⟨_,rfl,tb,_,dx3,_,_,rfl,h13,T.bM,T.fP,rfl,.inl ⟨rfl,_,SqL.of h33⟩,_,rfl,ll,_,(k:Int),k,V.int living[k],rfl,rfl,h33,by omega,by omega,hsi,by rw [aH,aA hk];rfl,?_⟩;have ee:(living.map V.int).eraseIdx k=(living.eraseIdx k).map V.int:=uA living k;rw [ee];refine q2 _ (kk.trans (KpL.put (by unfold FP;simp))) ⟨⟨dx3,by rw [ag n1];exact h13⟩,by rw [ag n3];exact h23,ah,⟨λ q hq=>?_,h43.2⟩,h53⟩;refine PM.keep (L:=[ll]) (h43.1 q hq) (KpL.put (by simp)) λ b hb hb2=>?_;rw [al_mi] at hb2;exact TB.apart hq hb (.inr (.inl hb2))
noncomputable def jL(t:Ad):Sp:=λ vs H Q E=>∃ (tb pd ll:Addr) (o:Obj) (ns:List Str) (ps:List bb) (living:List Int) (coming n:Int),vs=[.ref tb,.int n]/\TabAt t H tb pd ll o ns ps living coming/\ps.length<=100/\(∀ q∈ps,q.2.2.ok/\q.2.2.col.length=living.length)/\
 (n∉living->E (.ref t.bU) none H)/\(n∈living->∀ (l:Addr) (H':Hp),Same H H'->H l=none->H' l=some (.lst (ps.map λ q=>q.2.2.cells.getD (living.idxOf n) .non))->Q (.ref l) H')
theorem zeV:(["part", "place"]:List Str).Nodup:=by decide +kernel
theorem sc_Table_row:aB ["self", "number", "place"] ["self", "number"] (ax ph):=by walk_at "sc"
theorem zfH(T:Txt K mg t)(CL:bn P w K mg base (CXr P w) 1 t.aV "place_of" ["self", "number"] (rG t))(CT:bn P w K mg base CX0 11 t.aW "told" ["self"] (jN t))(CW:bn P w K mg base CX0 12 t.bE "told" ["self"] (xu t))(F:Fun K "row" "Table.row" ph f fd):FnOk P w K mg base (CXr P w) 13 f fd ["self", "number"] (jL t):=by
 obtain ⟨zbK,zbS,mr,nQ,mP⟩:=CL;obtain ⟨zkD,zkV,zL,zd7,zaq⟩:=CT;obtain ⟨zkI,zk0,zQ,zec,zav⟩:=CW;refine F.okX sc_Table_row (λ vs H Q E h=>?_) (λ cdv A outer s H vs Q E hr h=>?_)
 ·obtain ⟨tb,pd,ll,o,ns,ps,living,coming,n,rfl,_⟩:=h;rfl
 ·obtain ⟨tb,pd,ll,o,ns,ps,living,coming,n,rfl,TA,hpl,hok,q1,q2⟩:=h;obtain ⟨⟨dx,h1⟩,h2,h3,h4,h5⟩:=id TA;have ekl:=kT h5;refine ⟨_,(ao (aI (i:=2) sc_Table_row.nd rfl (Or.inr rfl) (bJ (pv 0) T.bM nQ mr (hr.mono (by decide)) mP .nil dj (aa (pv 1) ae)))
  (am (aC (cL (N:=["part", "place"]) (fr:=[none,some 2]) ⟨rfl,rfl,rfl,rfl,rfl,rfl⟩ rfl (wD (kX (bC K (pv 0) rfl)))
    (λ C fp s H=>⟨aU (i:=0) zeV rfl (Or.inl rfl),bZ,(bj (bG K) (PE.alt (c8 (pv 0) T.dm zd7 zL (hr.mono (by decide)) zaq .nil az) (c8 (pv 0) T.dF zec zQ (hr.mono (by decide)) zav .nil az)) (pv 1) (λ _ _=>rfl))⟩))))),?_⟩
  refine ⟨_,rfl,tb,dx,_,rfl,h1,rfl,_,rfl,tb,pd,ll,o,ns,ps,living,coming,n,rfl,TA,λ hn=>?_,q1⟩;have q2:=q2 hn;have hk:=List.idxOf_lt_length_of_mem hn;generalize living.idxOf n=k at q2 hk;refine ⟨_,rfl,tb,_,dx,_,_,rfl,h1,T.bM,T.fj,rfl,pd,_,rfl,.inr ⟨o,h2⟩,λ vw hvw=>⟨vw,pd,o,bS ns ps,rfl,ah,?_,?_⟩⟩
  ·rw [ag (aF h2 hvw)];exact h2
  have s2:Same H (upd H vw (d9 vw pd)):=Same.new hvw;generalize upd H vw (d9 vw pd)=H2 at s2;refine m6 (n:=ps.length) (λ i acc H'=>Same H H'/\acc=(ps.take i).map λ q=>q.2.2.cells.getD k .non) ⟨s2,rfl⟩ ?_ (Nat.le_of_lt (br (by omega))) ?_ ?_
  ·rintro i acc H' hi ⟨s3,rfl⟩;refine ⟨by rw [aj,bc];omega,λ h=>⟨s3 _ _ h2,by rw [ekl];exact h⟩,λ h=>⟨s3 _ _ h2,by rw [ekl];exact h⟩⟩
  ·rintro i x acc H3 H4 hi ⟨s3,rfl⟩ ⟨rfl,k0,e1⟩;obtain ⟨k',ek⟩:=kS h5 hi;rw [ek] at e1;cases e1;have eqi:ps[i]?=some ps[i]:=aA hi;have hat:=(h4.same s3).1 _ (List.getElem_mem hi);obtain ⟨o1,o2⟩:=hok _ (List.getElem_mem hi);have et:(ps.take (i+1)).map (λ q=>q.2.2.cells.getD k .non)=(ps.take i).map (λ q=>q.2.2.cells.getD k .non)++[ps[i].2.2.cells.getD k .non]:=by rw [List.take_add_one,eqi,aJ];rfl
   have hcell:=za5 (p:=ps[i].2.2) (k:=k) (by omega);generalize ps[i]=qq at hat o1 o2 et hcell;obtain ⟨a,fp,pm⟩:=qq;refine ⟨Wk.set rfl,tT ?_⟩;cases pm with
   | num ys=>
    obtain ⟨⟨dc,hC⟩,_⟩:=hat;exact .inl ⟨_,rfl,a,dc,_,rfl,hC,rfl,a,ys,rfl,⟨dc,hC⟩,o1,λ l H5 s5 hn5 h5'=>⟨_,rfl,l,_,_,_,rfl,rfl,SqL.of h5',dU hcell,cw hi ⟨s3.trans s5,et.symm⟩⟩⟩
   | wrd ws ms=>
    obtain ⟨c,d,W,_⟩:=hat;obtain ⟨o11,o12,o13⟩:=o1;obtain ⟨⟨dw,hw⟩,_⟩:=id W;exact .inr ⟨_,rfl,a,dw,_,rfl,hw,rfl,a,c,d,ws,ms,rfl,W,o11,o12,λ l H5 s5 hn5 h5'=>⟨_,rfl,l,_,_,_,rfl,rfl,SqL.of h5',dU hcell,cw hi ⟨s3.trans s5,et.symm⟩⟩⟩
  ·rintro acc H3 ⟨s3,rfl⟩ l hl;refine q2 l _ (aM s3 hl) (s3.free hl) ?_;rw [ah,bd]
noncomputable def nm5:List Str:=["a", "b", "age", "abcdefgh", "zz"]
theorem zfp:nm5.Nodup:=by decide +kernel
theorem zfr:∀ z∈nm5,gj 8 (.str z)=true:=by decide +kernel
theorem v0:∀ z∈nm5,z.cps.all (· < 128)=true/\z.length<=1000:=by decide +kernel
theorem zfq:("none" : Str)∉nm5:=by decide +kernel
noncomputable def LH(hs:List Hd2):Prop:=1<=hs.length/\hs.length<=3/\∃ r:Nat,∀ (j:Nat) (h:Hd2),hs[j]?=some h->nm5[(j+r) % 5]?=some h.1/\(h.2 = "number" \/ h.2 = "word")
theorem LH.mem(L:LH hs)(hm:h∈hs):h.1∈nm5/\(h.2 = "number" \/ h.2 = "word"):=by
 obtain ⟨_,_,r,hr⟩:=L;obtain ⟨j,hj⟩:=List.getElem?_of_mem hm;exact ⟨aS (hr j h hj).1,(hr j h hj).2⟩
theorem LH.nodup(L:LH hs):(hs.map (·.1)).Nodup:=by
 obtain ⟨_,l3,r,hr⟩:=L;rw [List.nodup_iff_pairwise_ne,List.pairwise_iff_getElem];intro i j hi hj hij e;rw [aj] at hi hj;rw [List.getElem_map,List.getElem_map] at e;have h1:=(hr i _ (aA hi)).1;have h2:=(hr j _ (aA hj)).1;rw [← e] at h2;have:=eZ zfp h1 h2;omega
theorem LH.good(L:LH hs):di hs=true:=by
 unfold di;rw [aN ⟨L.1,Nat.le_trans L.2.1 (by decide)⟩,aN L.nodup];have:hs.all eD=true:=List.all_eq_true.mpr λ h hm=>by
  obtain ⟨a,b⟩:=L.mem hm;unfold eD;rw [zfr _ a,aN b];rfl
 rw [this];rfl
noncomputable def eW(h:Hd2)(x:V):Bool:=if h.2 = "word" then gq x else valV' x
theorem zbE(i:Nat)(m:Int):((0+(i:Int)+m) % 5).toNat=(i+(m % 5).toNat) % 5:=by
 have h:=Int.emod_nonneg m (b:=5) (by decide);rw [Int.zero_add,← Int.add_emod_emod];obtain ⟨j,hj⟩:=Int.eq_ofNat_of_zero_le h;rw [hj];rfl
noncomputable def xN(K:W.Frag):Sp:=λ vs H Q _=>∃ (p:Addr) (ns:List Int) (k:Int),vs=[.ref p,.int k]/\SqL K H p (ns.map V.int)/\∀ (l:Addr) (as:List Addr) (hs:List Hd2) (H':Hp),Same H H'->H l=none->H' l=some (.lst (as.map V.ref))->HeadsAt H' as hs->LH hs->Q (.ref l) H'
theorem sc_l_columns:aB ["_law_script", "_law_k", "_law_names", "_law_found", "_law_j"] ["_law_script", "_law_k"] (ax qh):=by walk_at "sc"
theorem zgl(T:Txt K mg t)(C__law_mix:Cal P w K mg base CX0 3 "_law_mix" ["_law_script", "_law_k"] (lp K))(F:Fun K "_law_columns" "_law_columns" qh f fd):FnOk P w K mg base CX0 4 f fd ["_law_script", "_law_k"] (xN K):=by
 refine F.ok sc_l_columns (λ vs H Q E h=>?_) (λ cdv A outer s H vs Q E hr h=>?_)
 ·obtain ⟨p,ns,k,rfl,_⟩:=h;rfl
 ·obtain ⟨p,ns,k,rfl,hS,q⟩:=h;refine ⟨_,(ao (aI (i:=2) sc_l_columns.nd rfl (Or.inl rfl) (bD (aa aD (aa aD (aa aD (aa aD (aa aD ae)))))))
  (ao (aI (i:=3) sc_l_columns.nd rfl (Or.inl rfl) (bD ae))
  (ao (dO PassesOwn.never rfl (eG (by rfl) T.dA (aa (au bv aq (au cE (C__law_mix.pe hr az (aa (pv 0) (aa (pv 1) ae))) aq)) ae)) (aU (i:=4) sc_l_columns.nd rfl (Or.inl rfl))
   (am (bP (bW K PySem.F.plainAttrs_list PySem.F.slot_list_append PySem.F.type_list_append f9 (pv 3) (aa (gh (aa (bj (bG K) (pv 2) (au cE (au bv (pv 4) (C__law_mix.pe hr az (aa (pv 0) (aa (au bv (pv 1) aq) ae)))) aq) (λ _ _=>rfl)) (aa (bj (bG K) (bD (aa aD (aa aD ae))) (au cE (C__law_mix.pe hr az (aa (pv 0) (aa (au bv (au bv (pv 1) aq) (pv 4)) ae))) aq) (λ _ _=>rfl)) ae))) ae)))))
  (am (aC (pv 3)))))),?_⟩
  refine ⟨bf rfl,λ ln hln=>?_⟩;have s1:Same H (upd H ln (.lst (nm5.map V.str))):=Same.new hln;have h1:(upd H ln (.lst (nm5.map V.str))) ln=some (.lst (nm5.map V.str)):=ah;show cR _ _ _ (upd H ln (.lst (nm5.map V.str))) _;generalize upd H ln (.lst (nm5.map V.str))=H1 at s1 h1;refine ⟨bf rfl,λ lf hlf=>?_⟩;have s2:Same H1 (upd H1 lf (.lst [])):=Same.new hlf;have h2:(upd H1 lf (.lst [])) lf=some (.lst (([]:List Addr).map V.ref)):=ah;have h2n:=s2 _ _ h1;have nlf:ln≠lf:=aF h1 hlf;have hlf0:=s1.free hlf;show cR _ _ _ (upd H1 lf (.lst [])) _;generalize upd H1 lf (.lst [])=H2 at s2 h2 h2n;have t2:=s1.trans s2;have a1:=Int.emod_nonneg (mix ns k) (b:=3) (by decide);have a2:=Int.emod_lt_of_pos (mix ns k) (b:=3) (by decide);refine ⟨_,rfl,_,rfl,p,ns,_,rfl,t2.seq hS,_,_,rfl,rfl,by show (0:Int) < 3;decide,_,_,rfl,rfl,_,rfl,by show -2 ^ 62<=1+mix ns k % 3;omega,by show 1+mix ns k % 3 < 2 ^ 62;omega,?_⟩;obtain ⟨N,hN,hN1,hN3⟩:∃ N:Nat,1+mix ns k % 3=N/\1<=N/\N<=3:=⟨(1+mix ns k % 3).toNat,by omega,by omega,by omega⟩
  dsimp only;rw [hN,Int.toNat_natCast];have m0:=Int.emod_nonneg (mix ns (k+1)) (b:=5) (by decide);refine ⟨gw (λ i σ H'=>∃ (v4:Option V) (as:List Addr) (hs:List Hd2),σ=[some (.ref p),some (.int k),some (.ref ln),some (.ref lf),v4]/\Same H H'/\H' ln=some (.lst (nm5.map V.str))/\H' lf=some (.lst (as.map V.ref))/\HeadsAt H' as hs/\hs.length=i/\∀ (j:Nat) (h:Hd2),hs[j]?=some h->nm5[(j+(mix ns (k+1) % 5).toNat) % 5]?=some h.1/\(h.2 = "number" \/ h.2 = "word"))
   ⟨none,[],[],rfl,t2,h2n,h2,⟨rfl,λ i a h e=>(by cases e)⟩,rfl,λ j h e=>(by cases e)⟩ ?_ ?_⟩
  ·rintro i σ H3 hi ⟨v4,as,hs,rfl,s3,h3n,h3,hA,hlen,hr5⟩;have z0:=Int.emod_nonneg (0+(i:Int)+mix ns (k+1)) (b:=5) (by decide);have z1:=Int.emod_lt_of_pos (0+(i:Int)+mix ns (k+1)) (b:=5) (by decide);have ez:=zbE i (mix ns (k+1));have hz:((0+(i:Int)+mix ns (k+1)) % 5).toNat < nm5.length:=by show _ < 5;omega
   obtain ⟨nz,g5⟩:∃ nz,nm5[((0+(i:Int)+mix ns (k+1)) % 5).toNat]?=some nz:=⟨_,aA hz⟩
   have at5:atI (nm5.map V.str) ((0+(i:Int)+mix ns (k+1)) % 5)=some (.str nz):=fm z0 (by rw [aH,g5];rfl);rw [ez] at g5;obtain ⟨kz,at2,hk2⟩:∃ kz:Str,atI [V.str "number", V.str "word"] (mix ns (k+2+(0+(i:Int))) % 2)=some (.str kz)/\(kz = "number" \/ kz = "word"):=by
    have b0:=Int.emod_nonneg (mix ns (k+2+(0+(i:Int)))) (b:=2) (by decide);have b1:=Int.emod_lt_of_pos (mix ns (k+2+(0+(i:Int)))) (b:=2) (by decide);rcases (show mix ns (k+2+(0+(i:Int))) % 2=0\/mix ns (k+2+(0+(i:Int))) % 2=1 by omega) with e | e <;> rw [e]
    ·exact ⟨_,rfl,.inl rfl⟩
    ·exact ⟨_,rfl,.inr rfl⟩
   refine ⟨_,rfl,.inl ⟨rfl,_,SqL.of h3⟩,_,rfl,_,rfl,_,rfl,_,rfl,_,_,rfl,rfl,p,ns,_,rfl,s3.seq hS,_,_,rfl,rfl,_,_,rfl,rfl,by show (0:Int) < 5;decide,ln,_,_,_,rfl,rfl,SqL.of h3n,at5,bf rfl,λ l2 hl2=>?_⟩;have s4:Same H3 (upd H3 l2 (.lst [V.str "number", V.str "word"])):=Same.new hl2;refine ⟨_,rfl,_,rfl,_,_,rfl,rfl,_,rfl,_,_,rfl,rfl,p,ns,_,rfl,(s3.trans s4).seq hS,_,_,rfl,rfl,by show (0:Int) < 2;decide,l2,_,_,_,rfl,rfl,SqL.of ah,at2,(show 2<=sizeLine by decide),λ tp htp=>?_⟩;have s5:=aM (o:=.tup [V.str nz,V.str kz]) s4 htp;have h5:=s5 _ _ h3;have htp5:(upd (upd H3 l2 (.lst [V.str "number", V.str "word"])) tp (.tup [V.str nz,V.str kz])) tp=some (.tup [V.str nz,V.str kz]):=ah;have ntl:tp≠lf:=λ z=>by rw [z,s4 _ _ h3] at htp;cases htp
   generalize upd (upd H3 l2 (.lst [V.str "number", V.str "word"])) tp (.tup [V.str nz,V.str kz])=H5 at s5 h5 htp5;refine ⟨lf,_,_,rfl,rfl,h5,by rw [aj,hA.1];exact br (by omega),some (.int (0+(i:Int))),as++[tp],hs++[(nz,kz)],rfl,lj (s3.trans s5) hlf0,?_,?_,⟨?_,λ j a h e1 e2=>?_⟩,?_,λ j h e=>?_⟩
   ·rw [ag nlf];exact s5 _ _ h3n
   ·rw [ah,aJ];rfl
   ·rw [aO,aO,hA.1];rfl
   ·by_cases hj:j < as.length
    ·rw [List.getElem?_append_left hj] at e1;rw [List.getElem?_append_left (by rw [← hA.1];exact hj)] at e2;have e3:=s5 _ _ (hA.2 j a h e1 e2);rw [ag (λ z=>by rw [z,h5] at e3;cases e3)];exact e3
    ·have hj2:j=as.length:=by
      have:=(al_gs.mp e1).1;rw [aO,cn] at this;omega
     subst hj2;rw [List.getElem?_append_right (Nat.le_refl _),Nat.sub_self] at e1;rw [hA.1,List.getElem?_append_right (Nat.le_refl _),Nat.sub_self] at e2;cases e1;cases e2;rw [ag ntl];exact htp5
   ·rw [aO,hlen];rfl
   ·by_cases hj:j < hs.length
    ·rw [List.getElem?_append_left hj] at e;exact hr5 j h e
    ·have hj2:j=hs.length:=by
      have:=(al_gs.mp e).1;rw [aO,cn] at this;omega
     subst hj2;rw [List.getElem?_append_right (Nat.le_refl _),Nat.sub_self] at e;cases e;rw [hlen];exact ⟨g5,hk2⟩
  ·rintro σ H3 ⟨v4,as,hs,rfl,s3,h3n,h3,hA,hlen,hr5⟩;exact ⟨_,rfl,q lf as hs H3 s3 hlf0 h3 hA ⟨by omega,by omega,_,hr5⟩⟩
theorem iX{xs:List V}{z:Int}(h0:0<=z)(h1:z < xs.length):∃ v,atI xs z=some v/\v∈xs:=by
 have hl:z.toNat < xs.length:=by omega
 exact ⟨xs[z.toNat],fm h0 (aA hl),List.getElem_mem hl⟩
noncomputable def kP:V->Bool
 | .str z=>z.cps.all (· < 128) && decide (z.length<=1000)
 | .non=>true
 | .int _=>true
 | _=>false
theorem ot(h:kP x=true):okT x:=by
 cases x with
 | str z=>
  have h:(z.cps.all (· < 128) && decide (z.length<=1000))=true:=h;rw [Bool.and_eq_true] at h;exact ⟨h.1,of_decide_eq_true h.2⟩
 | non=>trivial
 | int i=>trivial
 | _=>cases h
noncomputable def r8:List V:=[.str "a", .str "b", .str "ab", .str "zz", .non,.str "abcdefghijkl", .str "ba"]
theorem zkg:∀ x∈r8,kP x=true/\gq x=true:=by
 intro x hx;unfold r8 at hx;simp only [al_mc,List.not_mem_nil,or_false] at hx;rcases hx with rfl | rfl | rfl | rfl | rfl | rfl | rfl <;> decide +kernel
noncomputable def xM(K:W.Frag):Sp:=λ vs H Q _=>∃ (p:Addr) (ns:List Int) (k:Int) (z:Str),vs=[.ref p,.int k,.str z]/\SqL K H p (ns.map V.int)/\∀ (x:V) (H':Hp),Same H H'->okT x->eW ("", z) x=true->Q x H'
theorem sc_l_cell_of:aB ["_law_script", "_law_k", "_law_kind", "_law_number"] ["_law_script", "_law_k", "_law_kind"] (ax qg):=by walk_at "sc"
theorem zgk(T:Txt K mg t)(C__law_mix:Cal P w K mg base CX0 3 "_law_mix" ["_law_script", "_law_k"] (lp K))(F:Fun K "_law_cell_of" "_law_cell_of" qg f fd):FnOk P w K mg base CX0 4 f fd ["_law_script", "_law_k", "_law_kind"] (xM K):=by
 refine F.ok sc_l_cell_of (λ vs H Q E h=>?_) (λ cdv A outer s H vs Q E hr h=>?_)
 ·obtain ⟨p,ns,k,z,rfl,_⟩:=h;rfl
 ·obtain ⟨p,ns,k,z,rfl,hS,q⟩:=h;refine ⟨_,(ao (aI (i:=3) sc_l_cell_of.nd rfl (Or.inl rfl) (C__law_mix.pe hr az (aa (pv 0) (aa (pv 1) ae))))
  (ao (a8 (aQ c6 (pv 2) aD (aP _)) (am (aC (bj (bG K) (bD (aa aD (aa aD (aa aD (aa aD (aa bx (aa aD (aa aD ae)))))))) (au cE (pv 3) aq) (λ _ _=>rfl))))
   bq)
  (am (aC (bj (bG K) (bD (aa aq (aa aq (aa aq (aa bx (aa (dZ d5 aq) (aa aq (aa aq (aa (au cE (au fE (pv 3) aq) aq) ae))))))))) (au cE (pv 3) aq) (λ _ _=>rfl)))))),?_⟩
  refine ⟨_,rfl,_,rfl,p,ns,_,rfl,hS,?_⟩;generalize mix ns k=m;refine ⟨_,rfl,rfl,_,rfl,?_⟩;by_cases hw:z = "word"
  ·rw [hw,dE];obtain ⟨v,hv,hm⟩:=iX (xs:=r8) (z:=m % 7) (Int.emod_nonneg _ (by decide)) (Int.emod_lt_of_pos _ (by decide));obtain ⟨o1,o2⟩:=zkg v hm;refine aE ⟨bf rfl,λ l hl=>⟨_,rfl,_,_,rfl,rfl,by show (0:Int) < 7;decide,l,_,_,_,rfl,rfl,SqL.of ah,hv,q v _ (Same.new hl) (ot o1) ?_⟩⟩;unfold eW;rw [if_pos hw];exact o2
  ·rw [d0 hw];have c0:=Int.emod_nonneg (m / 8) (b:=30) (by decide);have c1:=Int.emod_lt_of_pos (m / 8) (b:=30) (by decide);obtain ⟨v,hv,hm⟩:=iX (xs:=[.int 0,.int 1,.int 2,.non,.int (-5),.int 4000000,.int 1,.int (m / 8 % 30)]) (z:=m % 8) (Int.emod_nonneg _ (by decide)) (Int.emod_lt_of_pos _ (by decide));have hv2:okT v/\valV' v=true:=by
    simp only [al_mc,List.not_mem_nil,or_false] at hm;rcases hm with rfl | rfl | rfl | rfl | rfl | rfl | rfl | rfl
    ·exact ⟨trivial,rfl⟩
    ·exact ⟨trivial,rfl⟩
    ·exact ⟨trivial,rfl⟩
    ·exact ⟨trivial,rfl⟩
    ·exact ⟨trivial,rfl⟩
    ·exact ⟨trivial,rfl⟩
    ·exact ⟨trivial,rfl⟩
    ·exact ⟨trivial,aN (by omega)⟩
   refine ay ⟨5,rfl,_,rfl,_,_,rfl,rfl,⟨by decide,by decide⟩,_,_,rfl,rfl,by show (0:Int) < 30;decide,bf rfl,λ l hl=>⟨_,rfl,_,_,rfl,rfl,by show (0:Int) < 8;decide,l,_,_,_,rfl,rfl,SqL.of ah,hv,q v _ (Same.new hl) hv2.1 ?_⟩⟩;unfold eW;rw [if_neg hw];exact hv2.2
noncomputable def ja(hs:List Hd2)(xs:List V):Prop:=xs.length=hs.length/\(∀ x∈xs,okT x)/\∀ (i:Nat) (h:Hd2) (x:V),hs[i]?=some h->xs[i]?=some x->eW h x=true
noncomputable def xS(K:W.Frag):Sp:=λ vs H Q _=>∃ (p l:Addr) (ns:List Int) (k:Int) (as:List Addr) (hs:List Hd2),vs=[.ref p,.int k,.ref l]/\SqL K H p (ns.map V.int)/\H l=some (.lst (as.map V.ref))/\HeadsAt H as hs/\hs.length<=3/\
 ∀ (lr:Addr) (xs:List V) (H':Hp),Same H H'->H lr=none->H' lr=some (.lst xs)->ja hs xs->Q (.ref lr) H'
theorem ze8:(["_law_j", "_law_script", "_law_k", "_law_columns_here"]:List Str).Nodup:=by decide +kernel
theorem ziS:aB ["_law_script", "_law_k", "_law_columns_here"] ["_law_script", "_law_k", "_law_columns_here"] (ax qm):=by walk_at "sc"
theorem zgr(T:Txt K mg t)(C__law_cell_of:Cal P w K mg base CX0 4 "_law_cell_of" ["_law_script", "_law_k", "_law_kind"] (xM K))(F:Fun K "_law_row" "_law_row" qm f fd):FnOk P w K mg base CX0 5 f fd ["_law_script", "_law_k", "_law_columns_here"] (xS K):=by
 refine F.ok ziS (λ vs H Q E h=>?_) (λ cdv A outer s H vs Q E hr h=>?_)
 ·obtain ⟨p,l,ns,k,as,hs,rfl,_⟩:=h;rfl
 ·obtain ⟨p,l,ns,k,as,hs,rfl,hS,hl,hA,h3,q⟩:=h;have el:(as.map V.ref).length=hs.length:=by rw [aj];exact hA.1
  refine ⟨_,(am (aC (cL (N:=["_law_j", "_law_script", "_law_k", "_law_columns_here"]) (fr:=[none,some 0,some 1,some 2]) ⟨rfl,rfl,rfl,rfl,rfl,rfl⟩ rfl (eG (by rfl) T.dA (aa (aR (cJ K) (by rfl) T.bH PyProof.Rows.Boot.«len» (aa (pv 2) ae)) ae))
    (λ C fp s H=>⟨aU (i:=0) ze8 rfl (Or.inl rfl),bZ,(C__law_cell_of.pe hr az (aa (pv 1) (aa (au bv (pv 2) (pv 0)) (aa (bj (fY K) (bj (bG K) (pv 3) (pv 0) (λ _ _=>rfl)) aq (λ _ _=>rfl)) ae))))⟩)))),?_⟩
  refine ⟨_,rfl,l,_,rfl,.inl (SqL.of hl),_,rfl,by omega,by omega,?_⟩;rw [Int.toNat_natCast,el];refine ⟨gQ (λ i acc H'=>Same H H'/\acc.length=i/\(∀ x∈acc,okT x)/\∀ (j:Nat) (h:Hd2) (x:V),hs[j]?=some h->acc[j]?=some x->eW h x=true) ⟨Same.refl _,rfl,λ x hx=>(by cases hx),λ j h x _ e=>(by cases e)⟩ (λ i acc H' hi hp=>Nat.le_of_eq hp.2.1) (Nat.le_of_lt (br (by omega))) ?_ ?_⟩
  ·rintro i acc H1 hi ⟨s1,hlen,ho,hf⟩;have hla:i < as.length:=by rw [hA.1];exact hi
   have eh:hs[i]?=some hs[i]:=aA hi;have ht:=(hA.same s1).2 i _ _ (aA hla) eh;have ai:atI (as.map V.ref) (0+(i:Int))=some (.ref as[i]):=by
    rw [Int.zero_add];exact dU (by rw [aH,aA hla];rfl)
   refine ⟨Wk.set rfl,tT ⟨_,rfl,_,rfl,_,rfl,_,_,rfl,rfl,_,rfl,_,rfl,l,_,_,_,rfl,rfl,SqL.of (s1 _ _ hl),ai,_,_,_,_,rfl,rfl,SqT.of ht,rfl,p,ns,_,hs[i].2,rfl,s1.seq hS,λ x H2 s2 o2 f2=>cw hi ⟨s1.trans s2,?_,λ y hy=>?_,λ j h y e1 e2=>?_⟩⟩⟩
   ·rw [aO,hlen];rfl
   ·rcases al_mp.mp hy with h | h
    ·exact ho y h
    ·rw [al_mi.mp h];exact o2
   ·by_cases hj:j < acc.length
    ·rw [List.getElem?_append_left hj] at e2;exact hf j h y e1 e2
    ·have hj2:j=acc.length:=by
      have:=(al_gs.mp e2).1;rw [aO,cn] at this;omega
     rw [hj2,List.getElem?_append_right (Nat.le_refl _),Nat.sub_self] at e2;cases e2;rw [hj2,hlen,eh] at e1;cases e1;exact f2
  ·rintro acc H1 ⟨s1,hlen,ho,hf⟩ lr hlr;exact q lr acc _ (aM s1 hlr) (s1.free hlr) ah ⟨hlen,ho,hf⟩
theorem uj(xs:List V)(n:Nat):cK xs none (some (n:Int))=xs.take n:=by
 unfold cK;rw [HT.sIx_none,HT.sIx_nat,List.drop_zero,Nat.sub_zero];rcases Nat.le_total n xs.length with h | h
 ·rw [Nat.min_eq_left h]
 ·rw [Nat.min_eq_right h,List.take_of_length_le (Nat.le_refl _),List.take_of_length_le h]
theorem zbg(xs:List V)(h:b<=xs.length):cK xs (some (b:Int)) none=xs.drop b:=by
 unfold cK;rw [HT.sIx_none,HT.sIx_nat,Nat.min_eq_left h,List.take_of_length_le (by simp)]
theorem zbh(xs:List V)(h:1<=xs.length):cK xs none (some (-1))=xs.take (xs.length - 1):=by
 unfold cK;have e:HT.sIx xs.length xs.length (some (-1))=xs.length - 1:=by
  show (if (-1:Int) < 0 then ((-1:Int)+(xs.length:Int)).toNat else min (-1:Int).toNat xs.length)=_;rw [if_pos (by decide)];omega
 rw [e,HT.sIx_none,List.drop_zero,Nat.sub_zero]
noncomputable def se(hs:List Hd2)(ys:List V):Prop:=ys.length≠hs.length\/∃ (i:Nat) (h:Hd2) (y:V),hs[i]?=some h/\ys[i]?=some y/\eW h y=false
noncomputable def xQ:Sp:=λ vs H Q _=>∃ (lw:Addr) (x:V) (z:Str),vs=[.ref lw,x,.str z]/\
 ((¬ (z = "word" /\ x≠.non)/\Q x H)\/∃ (ws:List Str) (y:Str),x = .str y/\z = "word" /\ H lw=some (.lst (ws.map V.str))/\y∈ws/\Q (.int (ws.idxOf y)) H)
theorem vC:∀ {l:List Str} {n y:Str} {m:Nat},m < l.idxOf n->l[m]?=some y->y≠n
 | [],n,y,m,_,h=>by cases h
 | a::r,n,y,m,hm,h=>by
  by_cases e:a=n
  ·subst e;rw [List.idxOf_cons_self] at hm;omega
  ·have hb:(a == n)=false:=beq_eq_false_iff_ne.mpr e;rw [List.idxOf_cons,hb] at hm;cases m with
   | zero=>cases h;exact e
   | succ k=>exact vC (l:=r) (m:=k) (by simpa using hm) h
theorem zjj(l:List Str):(l.map V.str).all bN=true:=by
 rw [List.all_eq_true];intro x hx;obtain ⟨i,_,rfl⟩:=List.mem_map.mp hx;rfl
theorem ziR:aB ["_law_words", "_law_value", "_law_kind"] ["_law_words", "_law_value", "_law_kind"] (ax qi):=by walk_at "sc"
theorem zgp(T:Txt K mg t)(F:Fun K "_law_kept" "_law_kept" qi f fd):FnOk P w K mg base CX0 1 f fd ["_law_words", "_law_value", "_law_kind"] xQ:=by
 refine F.ok ziR (λ vs H Q E h=>?_) (λ cdv A outer s H vs Q E hr h=>?_)
 ·obtain ⟨lw,x,z,rfl,_⟩:=h;rfl
 ·obtain ⟨lw,x,z,rfl,h⟩:=h;refine ⟨_,(ao (a8 (PW.pt (jB (aQ c6 (pv 2) aD (aP _)) (jC (aQ kR (pv 1) bx (aP _))))) (am (aC (bW K PySem.F.plainAttrs_list PySem.F.slot_list_index PySem.F.type_list_index kI (pv 0) (aa (pv 1) ae))))
   bq)
  (am (aC (pv 1)))),?_⟩
  refine ⟨_,rfl,rfl,_,rfl,?_⟩;rcases h with ⟨hn,q⟩ | ⟨ws,y,rfl,hz,hw,hm,q⟩
  ·by_cases hz:z = "word"
   ·have hx:x = .non:=Classical.byContradiction λ hx=>hn ⟨hz,hx⟩;subst hx;rw [hz,dE];exact aE ⟨_,rfl,rfl,_,rfl,ay ⟨_,rfl,q⟩⟩
   ·rw [d0 hz];exact ay ⟨_,rfl,q⟩
  ·rw [hz,dE];have hi:=List.idxOf_lt_length_of_mem hm;refine aE ⟨_,rfl,rfl,_,rfl,aE ⟨_,rfl,.inl ⟨rfl,_,SqL.of hw⟩,_,rfl,lw,_,_,ws.idxOf y,rfl,rfl,hw,zjj _,rfl,⟨.str y,?_,gW rfl⟩,λ m v hm' hv=>?_,q⟩⟩
   ·rw [aH,aA hi,List.getElem_idxOf hi];rfl
   ·rw [aH] at hv;cases hy:ws[m]? with
    | none=>rw [hy] at hv;cases hv
    | some u=>
     rw [hy] at hv;cases hv;exact beq_eq_false_iff_ne.mpr (vC hm' hy)
noncomputable def gr:List V:=[.int 4000001,.int (-4000001),.str "a", .str "5"]
noncomputable def mR:List V:=[.str "", .str "Ab", .str "abcdefghijklm", .int 5]
theorem zaE:∀ x∈gr,kP x=true/\valV' x=false:=by
 intro x hx;unfold gr at hx;simp only [al_mc,List.not_mem_nil,or_false] at hx;rcases hx with rfl | rfl | rfl | rfl <;> decide +kernel
theorem zaF:∀ x∈mR,kP x=true/\gq x=false:=by
 intro x hx;unfold mR at hx;simp only [al_mc,List.not_mem_nil,or_false] at hx;rcases hx with rfl | rfl | rfl | rfl <;> decide +kernel
noncomputable def xL(K:W.Frag):Sp:=λ vs H Q _=>∃ (lr l:Addr) (xs:List V) (as:List Addr) (hs:List Hd2) (n:Int),vs=[.ref lr,.ref l,.int n]/\H lr=some (.lst xs)/\ja hs xs/\H l=some (.lst (as.map V.ref))/\HeadsAt H as hs/\1<=hs.length/\hs.length<=3/\
 ∀ (lb:Addr) (ys:List V) (H':Hp),Same H H'->H lb=none->H' lb=some (.lst ys)->(∀ y∈ys,okT y)->ys.length<=10->se hs ys->Q (.ref lb) H'
theorem sc_l_bad_row:aB ["_law_row_here", "_law_columns_here", "_law_number", "_law_at", "_law_bad"] ["_law_row_here", "_law_columns_here", "_law_number"] (ax qe):=by walk_at "sc"
theorem zgj(T:Txt K mg t)(F:Fun K "_law_bad_row" "_law_bad_row" qe f fd):FnOk P w K mg base CX0 1 f fd ["_law_row_here", "_law_columns_here", "_law_number"] (xL K):=by
 refine F.ok sc_l_bad_row (λ vs H Q E h=>?_) (λ cdv A outer s H vs Q E hr h=>?_)
 ·obtain ⟨lr,l,xs,as,hs,n,rfl,_⟩:=h;rfl
 ·obtain ⟨lr,l,xs,as,hs,n,rfl,hr0,⟨f1,f2,f3⟩,hl,hA,g1,g3,q⟩:=h;have el:(as.map V.ref).length=hs.length:=by rw [aj];exact hA.1
  refine ⟨_,(ao (aI (i:=3) sc_l_bad_row.nd rfl (Or.inl rfl) (au cE (au fE (pv 2) aq) (aR (cJ K) (by rfl) T.bH PyProof.Rows.Boot.«len» (aa (pv 1) ae))))
  (ao (aI (i:=4) sc_l_bad_row.nd rfl (Or.inl rfl) (bD (aa aq (aa (dZ d5 aq) (aa aD (aa aD ae))))))
  (k8 (a8 (aQ c6 (bj (fY K) (bj (bG K) (pv 1) (pv 3) (λ _ _=>rfl)) aq (λ _ _=>rfl)) aD (aP _)) (am (aI (i:=4) sc_l_bad_row.nd rfl (Or.inl rfl) (bD (aa aD (aa aD (aa aD (aa aq ae)))))))
   bq)
  (ao (a8 (aQ c6 (au cE (pv 2) aq) aq (aP _)) (am (aC (au fD (pv 0) (bD (aa bx ae)))))
   bq)
  (ao (a8 (aQ c6 (au cE (pv 2) aq) aq (aP _)) (am (aC (gg (im K) (pv 0) iY (eI (dZ d5 aq)))))
   bq)
  (am (aC (au fD (au fD (gg (im K) (pv 0) iY (eI (pv 3))) (bD (aa (bj (bG K) (pv 4) (au cE (au fE (pv 2) aq) aq) (λ _ _=>rfl)) ae))) (gg (im K) (pv 0) (eI (au bv (pv 3) aq)) iY))))))))),?_⟩
  refine ⟨_,rfl,_,_,rfl,rfl,⟨by decide,by decide⟩,_,rfl,l,_,rfl,.inl (SqL.of hl),_,_,rfl,rfl,by show (0:Int) < ((as.map V.ref).length:Int);omega,?_⟩;dsimp only;rw [el];have a0:=Int.emod_nonneg (n / 8) (b:=(hs.length:Int)) (by omega);have a1:=Int.emod_lt_of_pos (n / 8) (b:=(hs.length:Int)) (by omega);obtain ⟨A0,hA0,hAl⟩:∃ A0:Nat,n / 8 % (hs.length:Int)=A0/\A0 < hs.length:=⟨(n / 8 % (hs.length:Int)).toNat,by omega,by omega⟩
  rw [hA0];refine ⟨4000001,rfl,bf rfl,λ lb0 hlb0=>?_⟩;have s1:Same H (upd H lb0 (.lst gr)):=Same.new hlb0;have h1:(upd H lb0 (.lst gr)) lb0=some (.lst gr):=ah;show cR _ _ _ (upd H lb0 (.lst gr)) _;generalize upd H lb0 (.lst gr)=H1 at s1 h1;have hla:A0 < as.length:=by rw [hA.1];exact hAl
  have eh:hs[A0]?=some hs[A0]:=aA hAl;have ht:=(hA.same s1).2 A0 _ _ (aA hla) eh;have ai:atI (as.map V.ref) (A0:Int)=some (.ref as[A0]):=dU (by rw [aH,aA hla];rfl);refine ⟨λ σ H'=>Bx (∃ (lb:Addr) (bs:List V),σ=[some (.ref lr),some (.ref l),some (.int n),some (.int A0),some (.ref lb)]/\Same H H'/\H' lb=some (.lst bs)/\bs.length=4/\∀ x∈bs,okT x/\eW hs[A0] x=false),?_,?_⟩
  ·refine ⟨_,rfl,_,rfl,l,_,_,_,rfl,rfl,SqL.of (s1 _ _ hl),ai,_,_,_,_,rfl,rfl,SqT.of ht,rfl,rfl,_,rfl,?_⟩;by_cases hw:hs[A0].2 = "word"
   ·rw [hw,dE];refine aE ⟨bf rfl,λ lb2 hlb2=>⟨lb2,mR,rfl,aM s1 hlb2,ah,rfl,λ x hx=>?_⟩⟩;obtain ⟨b1,b2⟩:=zaF x hx;refine ⟨ot b1,?_⟩;unfold eW;rw [if_pos hw];exact b2
   ·rw [d0 hw];refine ay ⟨lb0,gr,rfl,s1,h1,rfl,λ x hx=>?_⟩;obtain ⟨b1,b2⟩:=zaE x hx;refine ⟨ot b1,?_⟩;unfold eW;rw [if_neg hw];exact b2
  rintro σ H2 ⟨lb,bs,rfl,s2,h2,hb4,hbs⟩;have hr2:=s2 _ _ hr0;have c1000:∀ {m:Nat},m<=1000->m<=sizeLine:=λ h=>Nat.le_of_lt (br h);refine ⟨_,rfl,_,_,rfl,rfl,by show (0:Int) < 4;decide,rfl,_,rfl,?_⟩;rw [dec_int];by_cases n0:n % 4=0
  ·rw [aN n0];refine aE ⟨_,rfl,bf rfl,λ l1 hl1=>⟨lr,l1,_,_,rfl,rfl,by rw [ag (aF hr2 hl1)];exact hr2,ah,c1000 (by show xs.length+1<=1000;omega),λ l2 hl2=>?_⟩⟩;have s3:=aM (aM (o:=.lst [V.non]) s2 hl1) (o:=.lst (xs++[V.non])) hl2;refine q l2 (xs++[V.non]) _ s3 ((aM (o:=.lst [V.non]) s2 hl1).free hl2) ah (λ y hy=>?_) ?_ (.inl ?_)
   ·rcases al_mp.mp hy with h | h
    ·exact f2 y h
    ·rw [al_mi.mp h];trivial
   ·rw [aO,cn];omega
   ·rw [aO,cn];omega
  rw [aK n0];refine ay ⟨_,rfl,_,_,rfl,rfl,by show (0:Int) < 4;decide,rfl,_,rfl,?_⟩;rw [dec_int];by_cases n1:n % 4=1
  ·rw [aN n1];refine aE ⟨_,rfl,1,rfl,_,rfl,lr,_,rfl,SqL.of hr2,λ l1 hl1=>?_⟩;have el2:(xs.take (xs.length - 1)).length=xs.length - 1:=by rw [bc];omega
   have ec:cK xs none (some (-1))=xs.take (xs.length - 1):=zbh xs (by omega);show Q (.ref l1) (upd H2 l1 (.lst (cK xs none (some (-1)))));rw [ec];exact q l1 _ _ (aM s2 hl1) (s2.free hl1) ah (λ y hy=>f2 y (List.mem_of_mem_take hy)) (by omega) (.inl (by omega))
  rw [aK n1];refine ay ⟨_,rfl,_,rfl,_,rfl,lr,_,rfl,SqL.of hr2,λ l1 hl1=>?_⟩;rw [uj];obtain ⟨v,hv,hm⟩:=iX (xs:=bs) (z:=n / 64 % 4) (Int.emod_nonneg _ (by decide)) (by rw [hb4];exact Int.emod_lt_of_pos _ (by decide));obtain ⟨v1,v2⟩:=hbs v hm;have s3:=aM (o:=.lst (xs.take A0)) s2 hl1;have h3:(upd H2 l1 (.lst (xs.take A0))) l1=some (.lst (xs.take A0)):=ah;have h3b:(upd H2 l1 (.lst (xs.take A0))) lb=some (.lst bs):=by rw [ag (aF h2 hl1)];exact h2
  generalize upd H2 l1 (.lst (xs.take A0))=H3 at s3 h3 h3b;refine ⟨_,rfl,_,rfl,_,_,rfl,rfl,⟨by decide,by decide⟩,_,_,rfl,rfl,by show (0:Int) < 4;decide,lb,_,_,_,rfl,rfl,SqL.of h3b,hv,bf rfl,λ l2 hl2=>⟨l1,l2,_,_,rfl,rfl,by rw [ag (aF h3 hl2)];exact h3,ah,c1000 ?_,λ l3 hl3=>?_⟩⟩
  ·rw [bc];show _+1<=1000;omega
  have s4:=aM (o:=.lst (xs.take A0++[v])) (aM (o:=.lst [v]) s3 hl2) hl3;have h4:(upd (upd H3 l2 (.lst [v])) l3 (.lst (xs.take A0++[v]))) l3=some (.lst (xs.take A0++[v])):=ah;generalize upd (upd H3 l2 (.lst [v])) l3 (.lst (xs.take A0++[v]))=H4 at s4 h4;refine ⟨_,rfl,_,rfl,_,_,rfl,rfl,_,rfl,lr,_,rfl,SqL.of (s4 _ _ hr0),λ l4 hl4=>?_⟩;have ecd:cK xs (some ((A0:Int)+1)) none=xs.drop (A0+1):=zbg xs (b:=A0+1) (by omega);show wR _ _ (upd H4 l4 (.lst (cK xs (some ((A0:Int)+1)) none))) _;rw [ecd];refine ⟨l3,l4,_,_,rfl,rfl,by rw [ag (aF h4 hl4)];exact h4,ah,c1000 ?_,λ l5 hl5=>?_⟩
  ·rw [aO,bc,List.length_drop,cn];omega
  have s5:=aM (o:=.lst (xs.drop (A0+1))) s4 hl4;refine q l5 _ _ (aM s5 hl5) (s5.free hl5) ah (λ y hy=>?_) ?_ (.inr ⟨A0,hs[A0],v,eh,?_,v2⟩)
  ·rcases al_mp.mp hy with h | h
   ·rcases al_mp.mp h with h | h
    ·exact f2 y (List.mem_of_mem_take h)
    ·rw [al_mi.mp h];exact v1
   ·exact f2 y (List.mem_of_mem_drop h)
  ·rw [aO,aO,bc,List.length_drop,cn];omega
  ·have e1:(xs.take A0).length=A0:=by rw [bc];omega
   rw [List.append_assoc,List.getElem?_append_right (by omega),e1,Nat.sub_self];rfl
noncomputable def BadL(H:Hp)(a:Addr):Prop:=∃ (as:List Addr) (hs:List Hd2),H a=some (.lst (as.map V.ref))/\HeadsAt H as hs/\hs.length<=100/\(∀ h∈hs,asc h.1/\h.1.length<=1000)/\di hs=false
theorem BadL.same{H H':Hp}{a:Addr}(h:BadL H a)(s:Same H H'):BadL H' a:=by
 obtain ⟨as,hs,h1,h2,h3,h4,h5⟩:=h;exact ⟨as,hs,s _ _ h1,h2.same s,h3,h4,h5⟩
theorem tq(hm:h∈hs)(hb:eD h=false):di hs=false:=by
 unfold di;have:hs.all eD=false:=by
  rw [List.all_eq_false];exact ⟨h,hm,by rw [hb];exact bz⟩
 rw [this,Bool.false_and,Bool.and_false]
theorem kr(h:HeadsAt H as hs){x:Hd2}(ha:H a=some (.tup [.str x.1,.str x.2])):HeadsAt H (as++[a]) (hs++[x]):=by
 refine ⟨by rw [aO,aO,h.1];rfl,λ i b y e1 e2=>?_⟩;by_cases hi:i < as.length
 ·rw [List.getElem?_append_left hi] at e1;rw [List.getElem?_append_left (by rw [← h.1];exact hi)] at e2;exact h.2 i b y e1 e2
 ·have hi2:i=as.length:=by
   have:=(al_gs.mp e1).1;rw [aO,cn] at this;omega
  subst hi2;rw [List.getElem?_append_right (Nat.le_refl _),Nat.sub_self] at e1;rw [h.1,List.getElem?_append_right (Nat.le_refl _),Nat.sub_self] at e2;cases e1;cases e2;exact ha
noncomputable def nameB:List Str:=["", "Ab", "abcdefghi", "a1", "a b"]
theorem vO:∀ z∈nameB,gj 8 (.str z)=false/\z.cps.all (· < 128)=true/\z.length<=1000:=by decide +kernel
noncomputable def kindB:List Str:=["numbers", "", "text"]
theorem zdz:∀ z∈kindB,¬ (z = "number" \/ z = "word"):=by decide +kernel
theorem zhJ:("q" : Str).cps.all (· < 128)=true/\("q" : Str).length<=1000:=by decide +kernel
theorem zdJ:("abcdefghi" : Str).cps.toList=[97,98,99,100,101,102,103,104,105]:=by decide +kernel
noncomputable def xK(K:W.Frag):Sp:=λ vs H Q _=>∃ (l:Addr) (as:List Addr) (hs:List Hd2) (n:Int),vs=[.ref l,.int n]/\H l=some (.lst (as.map V.ref))/\HeadsAt H as hs/\LH hs/\∀ (lb:Addr) (H':Hp),Same H H'->BadL H' lb->Q (.ref lb) H'
theorem ze7:(["_law_k"]:List Str).Nodup:=by decide +kernel
theorem sc_l_bad_columns:aB ["_law_columns_here", "_law_number", "_law_name", "_law_kind", "_law_some"] ["_law_columns_here", "_law_number"] (ax qd):=by walk_at "sc"
theorem zgi(T:Txt K mg t)(F:Fun K "_law_bad_columns" "_law_bad_columns" qd f fd):FnOk P w K mg base CX0 1 f fd ["_law_columns_here", "_law_number"] (xK K):=by
 refine F.ok sc_l_bad_columns (λ vs H Q E h=>?_) (λ cdv A outer s H vs Q E hr h=>?_)
 ·obtain ⟨l,as,hs,n,rfl,_⟩:=h;rfl
 ·obtain ⟨l,as,hs,n,rfl,hl,hA,L,q⟩:=h;have hlen:hs.length<=3:=L.2.1;have hasl:as.length=hs.length:=hA.1;have ht:∀ h∈hs,asc h.1/\h.1.length<=1000:=λ h hm=>v0 _ (L.mem hm).1;have c1000:∀ {m:Nat},m<=1000->m<=sizeLine:=λ h=>Nat.le_of_lt (br h);refine ⟨_,(ao (aI (i:=2) sc_l_bad_columns.nd rfl (Or.inl rfl) (bj (bG K) (bD (aa aD (aa aD (aa aD (aa aD (aa aD ae)))))) (au cE (au fE (pv 1) aq) aq) (λ _ _=>rfl)))
  (ao (aI (i:=3) sc_l_bad_columns.nd rfl (Or.inl rfl) (bj (bG K) (bD (aa aD (aa aD (aa aD ae)))) (au cE (au fE (pv 1) aq) aq) (λ _ _=>rfl)))
  (ao (aI (i:=4) sc_l_bad_columns.nd rfl (Or.inl rfl) (bD (aa (au fD (pv 0) (bD (aa (gh (aa (pv 2) (aa aD ae))) ae))) (aa (au fD (pv 0) (bD (aa (gh (aa aD (aa (pv 3) ae))) ae))) ae))))
  (ao (aI (i:=4) sc_l_bad_columns.nd rfl (Or.inl rfl) (au fD (pv 4) (bD (aa (au fD (pv 0) (gg (im K) (pv 0) iY (eI aq))) (aa (bD ae) (aa (cL (N:=["_law_k"]) (fr:=[none]) ⟨rfl,rfl,rfl,rfl,rfl,rfl⟩ rfl (eG (by rfl) T.dA (aa aq ae))
    (λ C fp s H=>⟨aU (i:=0) ze7 rfl (Or.inl rfl),bZ,(gh (aa (bj zdj aD (pv 0) (λ _ _=>rfl)) (aa aD ae)))⟩)) ae))))))
  (am (aC (bj (bG K) (pv 4) (au cE (pv 1) aq) (λ _ _=>rfl)))))))),?_⟩
  obtain ⟨v1,hv1,hm1⟩:=iX (xs:=nameB.map V.str) (z:=n / 8 % 5) (Int.emod_nonneg _ (by decide)) (Int.emod_lt_of_pos _ (by decide));obtain ⟨nz,hnz,rfl⟩:=List.mem_map.mp hm1;refine ⟨bf rfl,λ l1 hl1=>⟨_,rfl,_,_,rfl,rfl,⟨by decide,by decide⟩,_,_,rfl,rfl,by show (0:Int) < 5;decide,l1,_,_,_,rfl,rfl,SqL.of ah,hv1,?_⟩⟩;have s1:Same H (upd H l1 (.lst (nameB.map V.str))):=Same.new hl1;show cR _ _ _ (upd H l1 (.lst (nameB.map V.str))) _;generalize upd H l1 (.lst (nameB.map V.str))=H1 at s1;obtain ⟨v2,hv2,hm2⟩:=iX (xs:=kindB.map V.str) (z:=n / 8 % 3) (Int.emod_nonneg _ (by decide)) (Int.emod_lt_of_pos _ (by decide));obtain ⟨kz,hkz,rfl⟩:=List.mem_map.mp hm2;refine ⟨bf rfl,λ l2 hl2=>⟨_,rfl,_,_,rfl,rfl,⟨by decide,by decide⟩,_,_,rfl,rfl,by show (0:Int) < 3;decide,l2,_,_,_,rfl,rfl,SqL.of ah,hv2,?_⟩⟩;have s2:Same H (upd H1 l2 (.lst (kindB.map V.str))):=aM s1 hl2;show cR _ _ _ (upd H1 l2 (.lst (kindB.map V.str))) _;generalize upd H1 l2 (.lst (kindB.map V.str))=H2 at s2
  -- columns+[(name,'word')]
  refine ⟨_,rfl,_,rfl,(show 2<=sizeLine by decide),λ t1 ht1=>⟨bf rfl,λ l3 hl3=>?_⟩⟩;have s3:=aM (o:=.lst [V.ref t1]) (aM (o:=.tup [V.str nz,V.str "word"]) s2 ht1) hl3;have e3t:(upd (upd H2 t1 (.tup [V.str nz,V.str "word"])) l3 (.lst [V.ref t1])) t1=some (.tup [V.str nz,V.str "word"]):=by rw [ag (aF ah hl3)];exact ah
  have e3:(upd (upd H2 t1 (.tup [V.str nz,V.str "word"])) l3 (.lst [V.ref t1])) l3=some (.lst [V.ref t1]):=ah;generalize upd (upd H2 t1 (.tup [V.str nz,V.str "word"])) l3 (.lst [V.ref t1])=H3 at s3 e3t e3;refine ⟨l,l3,_,_,rfl,rfl,s3 _ _ hl,e3,c1000 (by rw [aj];show _+1<=1000;omega),λ a0 ha0=>?_⟩;have s4:=aM (o:=.lst (as.map V.ref++[V.ref t1])) s3 ha0;have B0:BadL (upd H3 a0 (.lst (as.map V.ref++[V.ref t1]))) a0:=by
   refine ⟨as++[t1],hs++([(nz, "word")]:List Hd2),by rw [ah,aJ];rfl,kr (x:=((nz, "word"):Hd2)) (hA.same s4) (by rw [ag (aF e3t ha0)];exact e3t),by rw [aO,cn];omega,λ h hm=>?_,tq (h:=((nz, "word"):Hd2)) (by simp) ?_⟩
   ·rcases al_mp.mp hm with h' | h'
    ·exact ht h h'
    ·rw [al_mi.mp h'];exact (vO nz hnz).2
   ·unfold eD;rw [(vO nz hnz).1];rfl
  generalize upd H3 a0 (.lst (as.map V.ref++[V.ref t1]))=H4 at s4 B0
  -- columns+[('q',kind)]
  refine ⟨_,rfl,_,rfl,(show 2<=sizeLine by decide),λ t2 ht2=>⟨bf rfl,λ l5 hl5=>?_⟩⟩;have s5':=aM (o:=.lst [V.ref t2]) (Same.new (o:=.tup [V.str "q", V.str kz]) ht2) hl5;have s5:=s4.trans s5';have e5t:(upd (upd H4 t2 (.tup [V.str "q", V.str kz])) l5 (.lst [V.ref t2])) t2=some (.tup [V.str "q", V.str kz]):=by rw [ag (aF ah hl5)];exact ah
  have e5:(upd (upd H4 t2 (.tup [V.str "q", V.str kz])) l5 (.lst [V.ref t2])) l5=some (.lst [V.ref t2]):=ah;have B0:=B0.same s5';generalize upd (upd H4 t2 (.tup [V.str "q", V.str kz])) l5 (.lst [V.ref t2])=H5 at s5' s5 e5t e5 B0;refine ⟨l,l5,_,_,rfl,rfl,s5 _ _ hl,e5,c1000 (by rw [aj];show _+1<=1000;omega),λ a1 ha1=>?_⟩;have s6:=aM (o:=.lst (as.map V.ref++[V.ref t2])) s5 ha1;have B1:BadL (upd H5 a1 (.lst (as.map V.ref++[V.ref t2]))) a1:=by
   refine ⟨as++[t2],hs++([("q", kz)]:List Hd2),by rw [ah,aJ];rfl,kr (x:=(("q", kz):Hd2)) (hA.same s6) (by rw [ag (aF e5t ha1)];exact e5t),by rw [aO,cn];omega,λ h hm=>?_,tq (h:=(("q", kz):Hd2)) (by simp) ?_⟩
   ·rcases al_mp.mp hm with h' | h'
    ·exact ht h h'
    ·rw [al_mi.mp h'];exact zhJ
   ·unfold eD;rw [aK (zdz kz hkz),Bool.and_false]
  have B0:=B0.same (Same.new (o:=.lst (as.map V.ref++[V.ref t2])) ha1);generalize upd H5 a1 (.lst (as.map V.ref++[V.ref t2]))=H6 at s6 B0 B1;refine ⟨bf rfl,λ lS hlS=>?_⟩;have s7:=aM (o:=.lst [V.ref a0,V.ref a1]) s6 hlS;have h7:(upd H6 lS (.lst [V.ref a0,V.ref a1])) lS=some (.lst [V.ref a0,V.ref a1]):=ah;have B0:=B0.same (Same.new (o:=.lst [V.ref a0,V.ref a1]) hlS);have B1:=B1.same (Same.new (o:=.lst [V.ref a0,V.ref a1]) hlS);show cR _ _ _ (upd H6 lS (.lst [V.ref a0,V.ref a1])) _;generalize upd H6 lS (.lst [V.ref a0,V.ref a1])=H7 at s7 h7 B0 B1
  -- columns+columns[:1]
  refine ⟨_,rfl,_,rfl,_,rfl,_,rfl,l,_,rfl,SqL.of (s7 _ _ hl),λ l8 hl8=>?_⟩;have ec:cK (as.map V.ref) none (some 1)=(as.take 1).map V.ref:=by rw [List.map_take];exact uj (as.map V.ref) 1
  rw [ec];have s8':=Same.new (o:=.lst ((as.take 1).map V.ref)) hl8;have s8:=s7.trans s8';have e8:(upd H7 l8 (.lst ((as.take 1).map V.ref))) l8=some (.lst ((as.take 1).map V.ref)):=ah;have h7:=s8' _ _ h7;have B0:=B0.same s8';have B1:=B1.same s8';generalize upd H7 l8 (.lst ((as.take 1).map V.ref))=H8 at s8' s8 e8 h7 B0 B1;refine ⟨l,l8,_,_,rfl,rfl,s8 _ _ hl,e8,c1000 (by rw [aj,aj,bc];omega),λ a2 ha2=>?_⟩;have s9':=Same.new (o:=.lst (as.map V.ref++(as.take 1).map V.ref)) ha2;have s9:=s8.trans s9';have B2:BadL (upd H8 a2 (.lst (as.map V.ref++(as.take 1).map V.ref))) a2:=by
   obtain ⟨h0,hr0,e0⟩:∃ h0 r0,hs=h0::r0:=List.exists_cons_of_length_pos L.1;obtain ⟨x0,xr0,ex0⟩:∃ x0 r0,as=x0::r0:=List.exists_cons_of_length_pos (by rw [hasl];exact L.1);have et:as.take 1=[x0]:=by rw [ex0];rfl
   have hx0:=(hA.same s9).2 0 x0 h0 (by rw [ex0];rfl) (by rw [e0];rfl);refine ⟨as++[x0],hs++[h0],by rw [ah,et,aJ],kr (hA.same s9) hx0,by rw [aO,cn];omega,λ h hm=>?_,?_⟩
   ·rcases al_mp.mp hm with h' | h'
    ·exact ht h h'
    ·rw [al_mi.mp h'];exact ht h0 (by rw [e0];exact bB)
   ·unfold di;have:¬ ((hs++[h0]).map (·.1)).Nodup:=λ hn=>by
     rw [aJ] at hn;exact (List.nodup_append.mp hn).2.2 h0.1 (List.mem_map.mpr ⟨h0,by rw [e0];exact bB,rfl⟩) h0.1 (List.mem_singleton_self _) rfl
    rw [aK this,Bool.and_false,Bool.and_false]
  have h7:=s9' _ _ h7;have B0:=B0.same s9';have B1:=B1.same s9';generalize upd H8 a2 (.lst (as.map V.ref++(as.take 1).map V.ref))=H9 at s9' s9 h7 B0 B1 B2;refine ⟨bf rfl,λ a3 ha3=>?_⟩;have s10':=Same.new (o:=.lst []) ha3;have s10:=s9.trans s10';have B3:BadL (upd H9 a3 (.lst [])) a3:=⟨[],[],ah,⟨rfl,λ i a h e=>(by cases e)⟩,by decide,λ h hm=>(by cases hm),rfl⟩
  have h7:=s10' _ _ h7;have B0:=B0.same s10';have B1:=B1.same s10';have B2:=B2.same s10';generalize upd H9 a3 (.lst [])=H10 at s10' s10 h7 B0 B1 B2 B3;refine ⟨9,rfl,by decide,by decide,⟨gQ (n:=9) (λ i acc H'=>Same H10 H'/\∃ (as9:List Addr) (hs9:List Hd2),acc=as9.map V.ref/\HeadsAt H' as9 hs9/\hs9.length=i/\∀ h∈hs9,asc h.1/\h.1.length<=1000) ⟨Same.refl _,[],[],rfl,⟨rfl,λ i a h e=>(by cases e)⟩,rfl,λ h hm=>(by cases hm)⟩ (λ i acc H' hi hp=>by
   obtain ⟨_,as9,hs9,rfl,h2,h3,_⟩:=hp;rw [aj,h2.1,h3];exact Nat.le_refl _) (by decide) ?_ ?_⟩⟩
  ·rintro i acc H11 hi ⟨s11,as9,hs9,rfl,hA9,hl9,ho9⟩;obtain ⟨c,hc,hc1⟩:∃ c,("abcdefghi" : Str).cps.toList[i]?=some c/\c < 128:=by
    rw [zdJ];have hi9:i < 9:=hi
    match i,hi9 with
    | 0,_=>exact ⟨_,rfl,by decide⟩
    | 1,_=>exact ⟨_,rfl,by decide⟩
    | 2,_=>exact ⟨_,rfl,by decide⟩
    | 3,_=>exact ⟨_,rfl,by decide⟩
    | 4,_=>exact ⟨_,rfl,by decide⟩
    | 5,_=>exact ⟨_,rfl,by decide⟩
    | 6,_=>exact ⟨_,rfl,by decide⟩
    | 7,_=>exact ⟨_,rfl,by decide⟩
    | 8,_=>exact ⟨_,rfl,by decide⟩
   have hat:atI ("abcdefghi" : Str).cps.toList (0+(i:Int))=some c:=by rw [Int.zero_add];exact dU hc
   refine ⟨Wk.set rfl,tT ⟨_,rfl, "abcdefghi", _,c,rfl,rfl,by decide,hat,(show 2<=sizeLine by decide),λ tp htp=>cw hi ⟨aM s11 htp,as9++[tp],hs9++([(⟨#[c]⟩, "word")]:List Hd2),?_,kr (x:=((⟨#[c]⟩, "word"):Hd2)) (hA9.same (Same.new htp)) ah,?_,λ h hm=>?_⟩⟩⟩
   ·rw [aJ];rfl
   ·rw [aO,hl9];rfl
   ·rcases al_mp.mp hm with h' | h'
    ·exact ho9 h h'
    ·rw [al_mi.mp h'];refine ⟨?_,bf rfl⟩;show (#[c]:Array Nat).all (· < 128)=true;simp [hc1]
  ·rintro acc H11 ⟨s11,as9,hs9,rfl,hA9,hl9,ho9⟩ a4 ha4;have s12':=aM (o:=.lst (as9.map V.ref)) s11 ha4;have s12:=s10.trans s12';have B4:BadL (upd H11 a4 (.lst (as9.map V.ref))) a4:=⟨as9,hs9,ah,hA9.same (Same.new ha4),by omega,ho9,by
    unfold di;rw [aK (by omega)];rfl⟩
   have h7:=s12' _ _ h7;have B0:=B0.same s12';have B1:=B1.same s12';have B2:=B2.same s12';have B3:=B3.same s12';generalize upd H11 a4 (.lst (as9.map V.ref))=H12 at s12' s12 h7 B0 B1 B2 B3 B4;refine ⟨bf rfl,λ l13 hl13=>⟨lS,l13,_,_,rfl,rfl,by rw [ag (aF h7 hl13)];exact h7,ah,bf rfl,λ l14 hl14=>?_⟩⟩;have sE:=aM (o:=.lst ([V.ref a0,V.ref a1]++[V.ref a2,V.ref a3,V.ref a4])) (Same.new (o:=.lst [V.ref a2,V.ref a3,V.ref a4]) hl13) hl14;obtain ⟨v,hv,hm⟩:=iX (xs:=[V.ref a0,V.ref a1]++[V.ref a2,V.ref a3,V.ref a4]) (z:=n % 5) (Int.emod_nonneg _ (by decide)) (Int.emod_lt_of_pos _ (by decide));refine ⟨_,rfl,_,rfl,_,_,rfl,rfl,by show (0:Int) < 5;decide,l14,_,_,_,rfl,rfl,SqL.of ah,hv,?_⟩;have hm:v = .ref a0\/v = .ref a1\/v = .ref a2\/v = .ref a3\/v = .ref a4:=by simpa using hm
   rcases hm with rfl | rfl | rfl | rfl | rfl
   ·exact q _ _ (s12.trans sE) (B0.same sE)
   ·exact q _ _ (s12.trans sE) (B1.same sE)
   ·exact q _ _ (s12.trans sE) (B2.same sE)
   ·exact q _ _ (s12.trans sE) (B3.same sE)
   ·exact q _ _ (s12.trans sE) (B4.same sE)
noncomputable def rD(t:Ad):Sp:=λ vs H Q _=>(vs=[.non]/\Q (.str "ok") H)\/∃ (a C:Addr) (z:Str),vs=[.ref a]/\H a=some (eP a (.ref C))/\((C=t.cp/\z = "row")\/(C=t.cq/\z = "table")\/(C=t.cr/\z = "column")\/(C=t.bU/\z = "norow"))/\∀ H',Same H H'->Q (.str z) H'
theorem zdg{c:Nat}{A B:Prop}(h:c=1)(hB:B):if (!decide (V.int (c:Int)=V.int 1))=true then A else B:=by
 subst h;exact hB
theorem sc_l_refusal:aB ["_law_kept_here", "_law_kinds"] ["_law_kept_here"] (ax qk):=by walk_at "sc"
theorem zgg(T:Txt K mg t)(F:Fun K "_law_refusal" "_law_refusal" qk f fd):FnOk P w K mg base CX0 1 f fd ["_law_kept_here"] (rD t):=by
 refine F.ok sc_l_refusal (λ vs H Q E h=>?_) (λ cdv A outer s H vs Q E hr h=>?_)
 ·rcases h with ⟨rfl,_⟩ | ⟨a,C,z,rfl,_⟩ <;> rfl
 ·refine ⟨_,(ao (a8 (aQ dM (pv 0) bx (aP _)) (am (aC aD))
   bq)
  (ao (aI (i:=1) sc_l_refusal.nd rfl (Or.inl rfl) (bD (aa (aR (dk K) (by rfl) T.dq PyProof.Rows.Boot.«isinstance» (aa (pv 0) (aa (dN T.nj) ae))) (aa (aR (dk K) (by rfl) T.dq PyProof.Rows.Boot.«isinstance» (aa (pv 0) (aa (dN T.zbY) ae))) (aa (aR (dk K) (by rfl) T.dq PyProof.Rows.Boot.«isinstance» (aa (pv 0) (aa (dN T.kj) ae))) ae)))))
  (ao (aI (i:=1) sc_l_refusal.nd rfl (Or.inl rfl) (au fD (pv 1) (bD (aa (aR (dk K) (by rfl) T.dq PyProof.Rows.Boot.«isinstance» (aa (pv 0) (aa (dN T.kl) ae))) (aa (aR (dk K) (by rfl) T.dq PyProof.Rows.Boot.«isinstance» (aa (pv 0) (aa (dN T.nk) ae))) (aa (aR (dk K) (by rfl) T.dq PyProof.Rows.Boot.«isinstance» (aa (pv 0) (aa (dN T.uV) ae))) ae))))))
  (ao (aI (i:=1) sc_l_refusal.nd rfl (Or.inl rfl) (au fD (pv 1) (bD (aa (aR (dk K) (by rfl) T.dq PyProof.Rows.Boot.«isinstance» (aa (pv 0) (aa (dN T.nn) ae))) (aa (aR (dk K) (by rfl) T.dq PyProof.Rows.Boot.«isinstance» (aa (pv 0) (aa (dN T.nq) ae))) ae)))))
  (ao (a8 (PW.pt (hZ (aQ dY (bW K PySem.F.plainAttrs_list PySem.F.slot_list_count PySem.F.type_list_count zeH (pv 1) (aa eF ae)) aq (aP _)) (ie (fG (fg (aR (dk K) (by rfl) T.dq PyProof.Rows.Boot.«isinstance» (aa (pv 0) (aa (hW T.zeP PyProof.Rows.Boot.«ValueError») ae)))))))) (am (aC aD))
   bq)
  (am (aC (bj (bG K) (bD (aa aD (aa aD (aa aD (aa aD (aa aD (aa aD (aa aD (aa aD ae))))))))) (bW K PySem.F.plainAttrs_list PySem.F.slot_list_index PySem.F.type_list_index kI (pv 1) (aa eF ae)) (λ _ _=>rfl))))))))),?_⟩
  rcases h with ⟨rfl,q⟩ | ⟨a,C,z,rfl,hA,hC,q1⟩
  ·exact ⟨_,rfl,rfl,_,rfl,aE q⟩
  refine ⟨_,rfl,rfl,_,rfl,ay ?_⟩;obtain ⟨b0,b1,b2,b3,b4,b5,b6,b7,j,k0,k1,k2,k3,k4,k5,k6,k7,kC,kv,hc,hj,hm,hw⟩:∃ (b0 b1 b2 b3 b4 b5 b6 b7:Bool) (j:Nat),W.kitOne K (.ref C) (.ref t.eV)=some b0/\W.kitOne K (.ref C) (.ref t.fU)=some b1/\W.kitOne K (.ref C) (.ref t.cp)=some b2/\W.kitOne K (.ref C) (.ref t.cq)=some b3/\W.kitOne K (.ref C) (.ref t.cQ)=some b4/\W.kitOne K (.ref C) (.ref t.cr)=some b5/\W.kitOne K (.ref C) (.ref t.dX)=some b6/\W.kitOne K (.ref C) (.ref t.bU)=some b7/\fi K C/\W.kitOne K (.ref C) (.type "ValueError")=some true/\([.bl b0,.bl b1,.bl b2,.bl b3,.bl b4,.bl b5,.bl b6,.bl b7]:List V).countP (λ z=>eqV z (.bl true))=1/\([.bl b0,.bl b1,.bl b2,.bl b3,.bl b4,.bl b5,.bl b6,.bl b7]:List V)[j]?=some (.bl true)/\(∀ m z,m < j->([.bl b0,.bl b1,.bl b2,.bl b3,.bl b4,.bl b5,.bl b6,.bl b7]:List V)[m]?=some z->eqV z (.bl true)=false)/\([.str "bits", .str "question", .str "row", .str "table", .str "value", .str "column", .str "packing", .str "norow"]:List V)[j]?=some (.str z):=by
   rcases hC with ⟨rfl,rfl⟩ | ⟨rfl,rfl⟩ | ⟨rfl,rfl⟩ | ⟨rfl,rfl⟩
   ·exact ⟨_,_,_,_,_,_,_,_,2,T.zcl,T.zcm,T.zcn,T.zco,T.zcp,T.zcq,T.zcr,T.zcs,T.zdk,T.zj5,rfl,rfl,λ m z hm hz=>match m,hm with | 0,_=>by cases hz;rfl | 1,_=>by cases hz;rfl,rfl⟩
   ·exact ⟨_,_,_,_,_,_,_,_,3,T.zct,T.zcu,T.zcv,T.zcw,T.zcx,T.zcy,T.zcz,T.zcA,T.zdl,T.zj6,rfl,rfl,λ m z hm hz=>match m,hm with | 0,_=>by cases hz;rfl | 1,_=>by cases hz;rfl | 2,_=>by cases hz;rfl,rfl⟩
   ·exact ⟨_,_,_,_,_,_,_,_,5,T.zcD,T.zcE,T.zcF,T.zcG,T.zcH,T.zcI,T.zcJ,T.zcK,T.zdm,T.zj7,rfl,rfl,λ m z hm hz=>match m,hm with | 0,_=>by cases hz;rfl | 1,_=>by cases hz;rfl | 2,_=>by cases hz;rfl | 3,_=>by cases hz;rfl | 4,_=>by cases hz;rfl,rfl⟩
   ·exact ⟨_,_,_,_,_,_,_,_,7,T.zcL,T.zcM,T.zcN,T.zcO,T.zcP,T.zcQ,T.zcR,T.zcS,T.zdn,T.zj8,rfl,rfl,λ m z hm hz=>match m,hm with | 0,_=>by cases hz;rfl | 1,_=>by cases hz;rfl | 2,_=>by cases hz;rfl | 3,_=>by cases hz;rfl | 4,_=>by cases hz;rfl | 5,_=>by cases hz;rfl | 6,_=>by cases hz;rfl,rfl⟩
  have g:∀ {H' D b},H' a=some (eP a (.ref C))->W.kitOne K (.ref C) (.ref D)=some b->gM K H' (.ref a) (.ref D) b:=λ h e=>zdb h kC e;refine ⟨_,rfl,_,_,_,rfl,g hA k0,_,rfl,_,_,_,rfl,g hA k1,_,rfl,_,_,_,rfl,g hA k2,bf rfl,λ l1 hl1=>?_⟩;have s1:=Same.new (o:=.lst [.bl b0,.bl b1,.bl b2]) hl1;have h1:=s1 _ _ hA;refine ⟨_,rfl,_,rfl,_,_,_,rfl,g h1 k3,_,rfl,_,_,_,rfl,g h1 k4,_,rfl,_,_,_,rfl,g h1 k5,bf rfl,λ l2 hl2=>?_⟩;have n12:l1≠l2:=aF ah hl2;refine ⟨l1,l2,_,_,rfl,rfl,by rw [ag n12];exact ah,ah,bf rfl,λ l3 hl3=>?_⟩;have s3:Same H (upd (upd (upd H l1 (.lst [.bl b0,.bl b1,.bl b2])) l2 (.lst [.bl b3,.bl b4,.bl b5])) l3 (.lst [.bl b0,.bl b1,.bl b2,.bl b3,.bl b4,.bl b5])):=aM (aM s1 hl2) hl3;have h3:=s3 _ _ hA;refine ⟨_,rfl,_,rfl,_,_,_,rfl,g h3 k6,_,rfl,_,_,_,rfl,g h3 k7,bf rfl,λ l4 hl4=>?_⟩;have n34:l3≠l4:=aF ah hl4;refine ⟨l3,l4,_,_,rfl,rfl,by rw [ag n34];exact ah,ah,bf rfl,λ l5 hl5=>?_⟩;have s5:=aM (o:=.lst [.bl b0,.bl b1,.bl b2,.bl b3,.bl b4,.bl b5,.bl b6,.bl b7]) (aM (o:=.lst [.bl b6,.bl b7]) s3 hl4) hl5;have h5:=s5 _ _ hA;refine ⟨_,rfl,.inl ⟨rfl,_,SqL.of ah⟩,l5,_,_,rfl,rfl,ah,rfl,rfl,rfl,_,rfl,?_⟩;refine zdg hc ⟨_,rfl,_,_,_,rfl,zdc h5 kC kv,_,rfl,ay ⟨bf rfl,λ l6 hl6=>?_⟩⟩;have n56:l5≠l6:=aF ah hl6;exact ⟨_,rfl,.inl ⟨rfl,_,SqL.of (by rw [ag n56];exact ah)⟩,l5,_,_,j,rfl,rfl,by rw [ag n56];exact ah,rfl,rfl,⟨.bl true,hj,rfl⟩,hm,l6,_,_,_,rfl,rfl,SqL.of ah,dU hw,q1 _ (aM s5 hl6)⟩
noncomputable def i9(t:Ad)(Q:VK):XK:=λ cls _ H'=>∃ (C:Addr) (z:Str),cls = .ref C/\((C=t.cp/\z = "row")\/(C=t.cq/\z = "table")\/(C=t.cr/\z = "column")\/(C=t.bU/\z = "norow"))/\∀ H'',Same H' H''->Q (.str z) H''
theorem z8(h:jK K t vs H Q E)(hq:∀ v H',Q v H'->Q' v H')(he:∀ c o H',E c o H'->E' c o H'):jK K t vs H Q' E':=by
 obtain ⟨tb,pd,ll,o,ns,ps,living,coming,l,xs,h1,h2,h3,h4,h5,h6,h7,h8,h9,q1,q2⟩:=h;exact ⟨tb,pd,ll,o,ns,ps,living,coming,l,xs,h1,h2,h3,h4,h5,h6,h7,h8,h9,λ g H' a b=>hq _ _ (q1 g H' a b),λ g H' a=>he _ _ _ (q2 g H' a)⟩
theorem z7(h:jJ t vs H Q E)(hq:∀ v H',Q v H'->Q' v H')(he:∀ c o H',E c o H'->E' c o H'):jJ t vs H Q' E':=by
 obtain ⟨tb,pd,ll,o,ns,ps,living,coming,n,h1,h2,h3,h4,h5,q1,q2⟩:=h;exact ⟨tb,pd,ll,o,ns,ps,living,coming,n,h1,h2,h3,h4,h5,λ g=>he _ _ _ (q1 g),λ g H' a b=>hq _ _ (q2 g H' a b)⟩
theorem z9(h:jL t vs H Q E)(hq:∀ v H',Q v H'->Q' v H')(he:∀ c o H',E c o H'->E' c o H'):jL t vs H Q' E':=by
 obtain ⟨tb,pd,ll,o,ns,ps,living,coming,n,h1,h2,h3,h4,q1,q2⟩:=h;exact ⟨tb,pd,ll,o,ns,ps,living,coming,n,h1,h2,h3,h4,λ g=>he _ _ _ (q1 g),λ g l H' a b c=>hq _ _ (q2 g l H' a b c)⟩
theorem z6(h:jI t vs H Q E)(hq:∀ v H',Q v H'->Q' v H')(he:∀ c o H',E c o H'->E' c o H'):jI t vs H Q' E':=by
 obtain ⟨tb,pd,ll,o,ns,ps,living,coming,z,h1,h2,h3,q1,q2⟩:=h;exact ⟨tb,pd,ll,o,ns,ps,living,coming,z,h1,h2,h3,λ i q a b=>hq _ _ (q1 i q a b),λ g=>he _ _ _ (q2 g)⟩
noncomputable def xT(K:W.Frag)(t:Ad):Sp:=λ vs H Q _=>∃ (tv x:V) (wd:Str),vs=[tv,.str wd,x]/\
 ((wd = "put" /\ jK K t [tv,x] H Q (i9 t Q))\/(wd = "drop" /\ jJ t [tv,x] H Q (i9 t Q))\/(wd = "row" /\ jL t [tv,x] H Q (i9 t Q))\/(wd = "bits" /\ jI t [tv,x] H Q (i9 t Q))\/
  (wd = "table" /\ ∃ lb,x = .ref lb/\BadL H lb/\∀ H',Same H H'->Q (.str "table") H'))
theorem sc_l_told:aB ["_law_table", "_law_word", "_law_thing", "_law_kept_here", "_law_found", "e"] ["_law_table", "_law_word", "_law_thing"] (ax qo):=by walk_at "sc"
theorem zgs(T:Txt K mg t)(CP:bn P w K mg base (CXr P w) 14 t.aV "put" ["self", "values"] (jK K t))(CD:bn P w K mg base (CXr P w) 14 t.aV "drop" ["self", "number"] (jJ t))(CR:bn P w K mg base (CXr P w) 13 t.aV "row" ["self", "number"] (jL t))(CB:bn P w K mg base (CXr P w) 3 t.aV "bits" ["self", "name"] (jI t))(CI:fM P w K mg base (CXr P w) 14 t.aV ["self", "columns"] (q8 K t))(C__law_refusal:Cal P w K mg base CX0 1 "_law_refusal" ["_law_kept_here"] (rD t))(F:Fun K "_law_told" "_law_told" qo f fd):FnOk P w K mg base CX0 16 f fd ["_law_table", "_law_word", "_law_thing"] (xT K t):=by
 obtain ⟨zbL,zbT,mt,nR,mQ⟩:=CP;obtain ⟨zbI,zbQ,mo,nO,mM⟩:=CD;obtain ⟨zkQ,zk8,zX,zej,zaC⟩:=CR;obtain ⟨zbH,zbP,mn,nM,mL⟩:=CB;obtain ⟨zbG,zbO,mm,nL,mK⟩:=CI;refine F.ok sc_l_told (λ vs H Q E h=>?_) (λ cdv A outer s H vs Q E hr h=>?_)
 ·obtain ⟨tv,x,wd,rfl,_⟩:=h;rfl
 ·obtain ⟨tv,x,wd,rfl,h⟩:=h;refine ⟨_,(ao (aI (i:=3) sc_l_told.nd rfl (Or.inl rfl) bx)
  (ao (aI (i:=4) sc_l_told.nd rfl (Or.inl rfl) bx)
  (ao (zhB rfl rfl rfl sc_l_told.nd (i:=5) rfl rfl (by rfl) T.zb3
   (λ pn xe E hE=>(am (a8 (aQ c6 (pv 1) aD (aP _)) (am (aI (i:=4) sc_l_told.nd rfl (Or.inl rfl) (bJ (pv 0) T.bM nR mt (hr.mono (by decide)) mQ .nil hE (aa (pv 2) ae))))
   (am (a8 (aQ c6 (pv 1) aD (aP _)) (am (aI (i:=4) sc_l_told.nd rfl (Or.inl rfl) (bJ (pv 0) T.bM nO mo (hr.mono (by decide)) mM .nil hE (aa (pv 2) ae))))
   (am (a8 (aQ c6 (pv 1) aD (aP _)) (am (aI (i:=4) sc_l_told.nd rfl (Or.inl rfl) (bJ (pv 0) T.bM zej zX (hr.mono (by decide)) zaC .nil hE (aa (pv 2) ae))))
   (am (a8 (aQ c6 (pv 1) aD (aP _)) (am (aI (i:=4) sc_l_told.nd rfl (Or.inl rfl) (bJ (pv 0) T.bM nM mn (hr.mono (by decide)) mL .nil hE (aa (pv 2) ae))))
   (am (bP (jy nL mm (hr.mono (by decide)) rfl T.uW mK .nil hE (aa (pv 2) ae))))))))))))) (λ a=>(am (aI (i:=3) sc_l_told.nd rfl (Or.inl rfl) (pv 5)))))
  (am (aC (dB (aQ dM (pv 3) bx (aP _)) (pv 4) (C__law_refusal.pe hr az (aa (pv 3) ae)))))))),?_⟩
  have fin:∀ (c:Value) (o:Option Value) (H':Hp),i9 t Q c none H'->W.exmOne K c (.ref t.fV)=some true/\∀ a,H' a=none->∃ v,((List.replicate 6 none).set 5 (some (V.ref a)):St)[5]?=some (some v)/\
    yt (tIf (iq (tOp (λ x y H Q=>y=V.non/\Q (V.bl (decide (x=V.non))) H) (cj 3) (tC V.non))) (cj 4) (lA (rD t) [] E0 (gK (cj 3) dQ))) { nx:=λ _ H'=>Q .non H',rt:=Q } ((((List.replicate 6 none).set 5 (some (.ref a))).set 3 (some v)).set 5 none) (upd H' a (eP a c)):=by
   rintro c o H' ⟨C,z,rfl,hz,q⟩;refine ⟨?_,λ a ha=>?_⟩
   ·rcases hz with ⟨rfl,_⟩ | ⟨rfl,_⟩ | ⟨rfl,_⟩ | ⟨rfl,_⟩
    ·exact T.zdQ
    ·exact T.zdR
    ·exact T.zdS
    ·exact T.zdT
   ·exact ⟨_,rfl,_,rfl,rfl,_,rfl,ay ⟨_,rfl,.inr ⟨a,C,z,rfl,ah,hz,λ H'' s2=>q H'' ((Same.new ha).trans s2)⟩⟩⟩
  refine ⟨_,rfl,rfl,_,rfl,?_⟩;rcases h with ⟨rfl,h⟩ | ⟨rfl,h⟩ | ⟨rfl,h⟩ | ⟨rfl,h⟩ | ⟨rfl,h⟩
  ·rw [dE];obtain ⟨tb,pd,ll,o,ns,ps,living,coming,l,xs,e,TA,_⟩:=id h;cases e;obtain ⟨dx,h1⟩:=TA.tab;refine aE ⟨_,rfl,tb,dx,_,rfl,h1,rfl,_,rfl,?_⟩;dsimp only [dQ,List.cons_append,List.nil_append,List.append_nil];refine z8 h ?_ ?_
   ·intro v H' q;exact ⟨_,rfl,rfl,_,rfl,aE ⟨_,rfl,q⟩⟩
   ·intro c o H' hE;exact fin c none H' hE
  ·rw [d0 (show ¬ ("drop" : Str) = "put" by decide)];refine ay ⟨_,rfl,rfl,_,rfl,?_⟩;rw [dE];obtain ⟨tb,pd,ll,o,ns,ps,living,coming,n,e,TA,_⟩:=id h;cases e;obtain ⟨dx,h1⟩:=TA.tab;refine aE ⟨_,rfl,tb,dx,_,rfl,h1,rfl,_,rfl,?_⟩;dsimp only [dQ,List.cons_append,List.nil_append,List.append_nil];refine z7 h ?_ ?_
   ·intro v H' q;exact ⟨_,rfl,rfl,_,rfl,aE ⟨_,rfl,q⟩⟩
   ·intro c o H' hE;exact fin c none H' hE
  ·rw [d0 (show ¬ ("row" : Str) = "put" by decide)];refine ay ⟨_,rfl,rfl,_,rfl,?_⟩;rw [d0 (show ¬ ("row" : Str) = "drop" by decide)];refine ay ⟨_,rfl,rfl,_,rfl,?_⟩;rw [dE];obtain ⟨tb,pd,ll,o,ns,ps,living,coming,n,e,TA,_⟩:=id h;cases e;obtain ⟨dx,h1⟩:=TA.tab;refine aE ⟨_,rfl,tb,dx,_,rfl,h1,rfl,_,rfl,?_⟩;dsimp only [dQ,List.cons_append,List.nil_append,List.append_nil];refine z9 h ?_ ?_
   ·intro v H' q;exact ⟨_,rfl,rfl,_,rfl,aE ⟨_,rfl,q⟩⟩
   ·intro c o H' hE;exact fin c none H' hE
  ·rw [d0 (show ¬ ("bits" : Str) = "put" by decide)];refine ay ⟨_,rfl,rfl,_,rfl,?_⟩;rw [d0 (show ¬ ("bits" : Str) = "drop" by decide)];refine ay ⟨_,rfl,rfl,_,rfl,?_⟩;rw [d0 (show ¬ ("bits" : Str) = "row" by decide)];refine ay ⟨_,rfl,rfl,_,rfl,?_⟩;rw [dE];obtain ⟨tb,pd,ll,o,ns,ps,living,coming,z,e,TA,_⟩:=id h;cases e;obtain ⟨dx,h1⟩:=TA.tab;refine aE ⟨_,rfl,tb,dx,_,rfl,h1,rfl,_,rfl,?_⟩;dsimp only [dQ,List.cons_append,List.nil_append,List.append_nil];refine z6 h ?_ ?_
   ·intro v H' q;exact ⟨_,rfl,rfl,_,rfl,aE ⟨_,rfl,q⟩⟩
   ·intro c o H' hE;exact fin c none H' hE
  ·rw [d0 (show ¬ ("table" : Str) = "put" by decide)];refine ay ⟨_,rfl,rfl,_,rfl,?_⟩;rw [d0 (show ¬ ("table" : Str) = "drop" by decide)];refine ay ⟨_,rfl,rfl,_,rfl,?_⟩;rw [d0 (show ¬ ("table" : Str) = "row" by decide)];refine ay ⟨_,rfl,rfl,_,rfl,?_⟩;rw [d0 (show ¬ ("table" : Str) = "bits" by decide)];obtain ⟨lb,rfl,⟨as,hs,b1,b2,b3,b4,b5⟩,q⟩:=h;refine ay ⟨_,rfl,λ x dx hx hdx ndx=>?_⟩;have s0:Same H (upd (upd H dx (.own x)) x (.ins t.aV dx [])):=aM (Same.new hdx) (by rw [ag (Ne.symm ndx)];exact hx);exact ⟨x,dx,lb,as,hs,rfl,ah,s0 _ _ b1,b2.same s0,b3,b4,λ _ H1 s1=>fin _ none H1 ⟨_,_,rfl,.inr (.inl ⟨rfl,rfl⟩),λ H2 s2=>q H2 ((s0.trans s1).trans s2)⟩,λ z=>(by rw [b5] at z;cases z)⟩
noncomputable def PM.okN(g:Nat):PM->Prop
 | .num xs=>okC xs=true
 | .wrd ws ns=>okC ns=true/\inR ws ns/\ws.length<=g/\ws.Nodup
theorem PM.okN_ok(h:p.okN g)(hg:g<=1000):p.ok:=by
 cases p with
 | num xs=>exact h
 | wrd ws ns=>exact ⟨h.1,h.2.1,Nat.le_trans h.2.2.1 hg⟩
theorem zkf{z:Str}{o:OI}(h:∀ i:Int,o=some i->0<=i/\i < ws.length):cI (ws++[z]) o=cI ws o:=by
 cases o with
 | none=>rfl
 | some i=>
  obtain ⟨a,b⟩:=h i rfl;show V.str ((ws++[z]).getD i.toNat "")=V.str (ws.getD i.toNat "");rw [List.getD_eq_getElem?_getD,List.getD_eq_getElem?_getD,List.getElem?_append_left (by omega)]
theorem PM.put_cells(h:p.okN g)(ht:p.takes x=true):(p.put x).cells=p.cells++[x]:=by
 cases p with
 | num xs=>
  show (xs++[voi x]).map ov=_;rw [aJ];have:=(oA ht).1;show xs.map ov++[ov (voi x)]=xs.map ov++[x]
  rw [← this]
 | wrd ws ns=>
  obtain ⟨h1,h2,h3,h4⟩:=h;rcases lH ht with rfl | ⟨z,rfl⟩
  ·show (ns++[none]).map (cI ws)=_;rw [aJ];rfl
  ·show (ns++[(cA ws (.str z)).2]).map (cI (cA ws (.str z)).1)=_;by_cases hm:z∈ws
   ·have en:cA ws (.str z)=(ws,some (ws.idxOf z:Int)):=if_pos hm;rw [en,aJ];have hi:=List.idxOf_lt_length_of_mem hm;have:cI ws (some (ws.idxOf z:Int)) = .str z:=by
     show V.str (ws.getD (ws.idxOf z:Int).toNat "")=_;rw [Int.toNat_natCast,List.getD_eq_getElem?_getD,aA hi,List.getElem_idxOf hi];rfl
    show ns.map (cI ws)++[cI ws (some (ws.idxOf z:Int))]=ns.map (cI ws)++[V.str z]
    rw [this]
   ·have en:cA ws (.str z)=(ws++[z],some (ws.length:Int)):=if_neg hm;rw [en,aJ];have e1:ns.map (cI (ws++[z]))=ns.map (cI ws):=List.map_congr_left λ o ho=>zkf λ i e=>h2 i (by rw [← e];exact ho);have e2:cI (ws++[z]) (some (ws.length:Int)) = .str z:=by
     show V.str ((ws++[z]).getD (ws.length:Int).toNat "")=_;rw [Int.toNat_natCast,List.getD_eq_getElem?_getD,List.getElem?_append_right (Nat.le_refl _),Nat.sub_self];rfl
    show ns.map (cI (ws++[z]))++[cI (ws++[z]) (some (ws.length:Int))]=_;rw [e1,e2];rfl
theorem PM.put_ok(h:p.okN g)(ht:p.takes x=true)(hl:p.col.length < 64)(hg:g<=900):(p.put x).okN (g+1)/\(p.put x).col.length=p.col.length+1:=by
 cases p with
 | num xs=>
  refine ⟨kO h hl (oA ht).2,?_⟩;show (xs++[voi x]).length=xs.length+1;rw [aO];rfl
 | wrd ws ns=>
  obtain ⟨h1,h2,h3,h4⟩:=h;have hok:=kO (o:=(cA ws x).2) h1 hl (vZ x (by omega));refine ⟨⟨hok,?_⟩,?_⟩
  ·rcases lH ht with rfl | ⟨z,rfl⟩
   ·refine ⟨λ i hi=>?_,Nat.le_succ_of_le h3,h4⟩;rcases al_mp.mp hi with h | h
    ·exact h2 i h
    ·cases al_mi.mp h
   ·by_cases hm:z∈ws
    ·have en:cA ws (.str z)=(ws,some (ws.idxOf z:Int)):=if_pos hm;rw [en];refine ⟨λ i hi=>?_,Nat.le_succ_of_le h3,h4⟩;rcases al_mp.mp hi with h | h
     ·exact h2 i h
     ·have:=List.idxOf_lt_length_of_mem hm;cases al_mi.mp h;exact ⟨by omega,by show (ws.idxOf z:Int) < (ws.length:Int);omega⟩
    ·have en:cA ws (.str z)=(ws++[z],some (ws.length:Int)):=if_neg hm;rw [en];have el:(ws++[z]).length=ws.length+1:=by rw [aO];rfl
     refine ⟨λ i hi=>?_,by show (ws++[z]).length<=g+1;omega,?_⟩
     ·rcases al_mp.mp hi with h | h
      ·have:=h2 i h;exact ⟨this.1,by show i < ((ws++[z]).length:Int);omega⟩
      ·cases al_mi.mp h;exact ⟨by omega,by show (ws.length:Int) < ((ws++[z]).length:Int);omega⟩
     ·exact List.nodup_append.mpr ⟨h4,by simp,λ a ha b hb e=>hm (by rw [← al_mi.mp hb,← e];exact ha)⟩
  ·show (ns++[(cA ws x).2]).length=ns.length+1;rw [aO];rfl
theorem eraseIdx_map'{α β:Type}(f:α->β):∀ (l:List α) (k:Nat),(l.map f).eraseIdx k=(l.eraseIdx k).map f
 | [],_=>rfl
 | _::_,0=>rfl
 | a::r,k+1=>by show f a::(r.map f).eraseIdx k=f a::(r.eraseIdx k).map f;rw [eraseIdx_map']
theorem PM.drop_cells(p:PM)(k:Nat):(p.drop k).cells=p.cells.eraseIdx k:=by
 cases p with
 | num xs=>exact (eraseIdx_map' ov xs k).symm
 | wrd ws ns=>exact (eraseIdx_map' (cI ws) ns k).symm
theorem PM.drop_ok(h:p.okN g)(hk:k < p.col.length):(p.drop k).okN g/\(p.drop k).col.length=p.col.length - 1:=by
 cases p with
 | num xs=>exact ⟨oo h k,by show (xs.eraseIdx k).length=_;rw [List.length_eraseIdx,if_pos (show k < xs.length from hk)];rfl⟩
 | wrd ws ns=>
  obtain ⟨h1,h2,h3,h4⟩:=h;exact ⟨⟨oo h1 k,λ i hi=>h2 i (List.mem_of_mem_eraseIdx hi),h3,h4⟩,by show (ns.eraseIdx k).length=_;rw [List.length_eraseIdx,if_pos (show k < ns.length from hk)];rfl⟩
theorem zfm(h:Hd2)(x:V):(dJ h).takes x=eW h x:=by
 unfold dJ eW;by_cases e:h.2 = "word"
 ·rw [if_pos e,if_pos e];rfl
 ·rw [if_neg e,if_neg e];rfl
noncomputable def b8(living:List Int)(rows:List (Addr × List V)):List (Key × V):=(living.zip (rows.map λ r=>V.ref r.1)).map λ q=>(.inl (some q.1),q.2)
theorem i3:∀ {living:List Int} {rows:List (Addr × List V)} {n:Int},n∉living->ba (b8 living rows) (.inl (some n))=none
 | [],_,_,_=>rfl
 | _::_,[],_,_=>rfl
 | m::l,r::rs,n,h=>by
  have h1:¬ (Sum.inl (some m):Key)=Sum.inl (some n):=λ e=>h (by rw [Option.some.inj (Sum.inl.inj e)];exact bB);have e:ba (b8 (m::l) (r::rs)) (.inl (some n))=ba (b8 l rs) (.inl (some n)):=fL h1;rw [e];exact i3 λ hz=>h (bp _ hz)
theorem oQ:∀ {living:List Int} {rows:List (Addr × List V)} {i:Nat} {n:Int} {r:Addr × List V},living.Pairwise (· < ·)->living[i]?=some n->rows[i]?=some r->ba (b8 living rows) (.inl (some n))=some (.ref r.1)
 | [],_,i,_,_,_,h,_=>by cases h
 | _::_,[],i,_,_,_,_,h=>by cases h
 | m::l,r::rs,0,n,r',_,h1,h2=>by
  cases h1;cases h2;exact iu rfl
 | m::l,r::rs,i+1,n,r',hp,h1,h2=>by
  obtain ⟨a,b⟩:=List.pairwise_cons.mp hp;have h1:l[i]?=some n:=h1;have hlt:=a n (aS h1);have hne:¬ (Sum.inl (some m):Key)=Sum.inl (some n):=λ e=>by
   have:=Option.some.inj (Sum.inl.inj e);omega
  have e:ba (b8 (m::l) (r::rs)) (.inl (some n))=ba (b8 l rs) (.inl (some n)):=fL hne;rw [e];exact oQ b h1 h2
theorem zh9{rows:List (Addr × List V)}(h:rows.length=living.length)(n:Int)(r:Addr × List V):b8 (living++[n]) (rows++[r])=b8 living rows++[(.inl (some n),.ref r.1)]:=by
 unfold b8;rw [aJ,List.zip_append (by rw [aj];exact h.symm),aJ];rfl
theorem zby{kvs:List (Key × V)}{k:Key}(h:ba kvs k=none):eB kvs k=kvs:=by
 unfold eB;rw [List.filter_eq_self];intro kv hkv;refine aN λ e=>?_;exact zj9 h (List.mem_map.mpr ⟨kv,hkv,e⟩)
theorem w6:∀ {living:List Int} {rows:List (Addr × List V)} {i:Nat} {n:Int},living.Pairwise (· < ·)->rows.length=living.length->living[i]?=some n->eB (b8 living rows) (.inl (some n))=b8 (living.eraseIdx i) (rows.eraseIdx i)
 | [],_,i,_,_,_,h=>by cases h
 | _::_,[],i,_,_,h,_=>by cases h
 | m::l,r::rs,0,n,hp,hl,h1=>by
  have h1:m=n:=Option.some.inj h1;subst h1;obtain ⟨a,b⟩:=List.pairwise_cons.mp hp;have hn:m∉l:=λ z=>by have:=a m z;omega
  have e:eB (b8 (m::l) (r::rs)) (.inl (some m))=eB (b8 l rs) (.inl (some m)):=by
   show List.filter _ ((Sum.inl (some m),V.ref r.1)::b8 l rs)=_;rw [List.filter_cons_of_neg (by simp)];rfl
  rw [e,zby (i3 hn)];rfl
 | m::l,r::rs,i+1,n,hp,hl,h1=>by
  obtain ⟨a,b⟩:=List.pairwise_cons.mp hp;have h1:l[i]?=some n:=h1;have hlt:=a n (aS h1);have e:eB (b8 (m::l) (r::rs)) (.inl (some n))=(Sum.inl (some m),V.ref r.1)::eB (b8 l rs) (.inl (some n)):=by
   show List.filter _ ((Sum.inl (some m),V.ref r.1)::b8 l rs)=_;have hne:(Sum.inl (some m):Key)≠Sum.inl (some n):=λ z=>by
    have:m=n:=Option.some.inj (Sum.inl.inj z);omega
   rw [List.filter_cons_of_pos (by simpa using hne)];rfl
  rw [e,w6 b (Nat.succ.inj hl) h1];rfl
structure LS where
 l:Addr
 tb:Addr
 dr:Addr
 lw:Addr
 pd:Addr
 ll:Addr
 o:Obj
 as:List Addr
 hs:List Hd2
 ps:List bb
 living:List Int
 g:Nat
 rows:List (Addr × List V)
 wa:List (Addr × List V)
variable {S:LS}
noncomputable def LS.own(S:LS):List Addr:=S.l::S.dr::S.lw::(S.as++(S.rows.map (·.1)++S.wa.map (·.1)))
structure LawAt (t:Ad) (H:Hp) (S:LS):Prop where
 cols:H S.l=some (.lst (S.as.map V.ref))
 heads:HeadsAt H S.as S.hs
 lh:LH S.hs
 tab:TabAt t H S.tb S.pd S.ll S.o (S.hs.map (·.1)) S.ps S.living S.g
 kin:∀ (i:Nat) (h:Hd2) (q:bb),S.hs[i]?=some h->S.ps[i]?=some q->(∀ x,q.2.2.takes x=eW h x)/\(h.2 = "word" -> ∃ ws ns,q.2.2 = .wrd ws ns)/\(h.2 ≠ "word" -> ∃ xs,q.2.2 = .num xs)
 ok:∀ q∈S.ps,q.2.2.okN S.g/\q.2.2.col.length=S.living.length
 ris:S.living.Pairwise (· < ·)
 bel:∀ n∈S.living,0<=n/\n < S.g
 few:S.living.length<=S.g
 dic:H S.dr=some (.dK (b8 S.living S.rows))
 rlen:S.rows.length=S.living.length
 rows:∀ r∈S.rows,H r.1=some (.lst r.2)/\(∀ x∈r.2,okT x)/\r.2.length=S.hs.length
 cells:∀ (i j:Nat) (r:Addr × List V) (q:bb),S.rows[i]?=some r->S.ps[j]?=some q->r.2[j]?=q.2.2.cells[i]?
 words:H S.lw=some (.lst (S.wa.map λ a=>V.ref a.1))
 wlen:S.wa.length=S.hs.length
 wrd:∀ a∈S.wa,H a.1=some (.lst a.2)/\a.2.all bN=true/\a.2.length<=S.g
 wcol:∀ (j:Nat) (a:Addr × List V) (q:bb) (ws:List Str) (ns:List OI),S.wa[j]?=some a->S.ps[j]?=some q->q.2.2 = .wrd ws ns->a.2=ws.map V.str
 apart:∀ b∈S.own,b∉FP S.tb S.ll S.ps
 nd:(S.l::S.lw::(S.rows.map (·.1)++S.wa.map (·.1))).Nodup
theorem LawAt.plen(h:LawAt t H S):S.ps.length=S.hs.length:=by
 have:=h.tab.len;rw [aj] at this;exact this.symm
theorem LawAt.same{t:Ad}{H H':Hp}{S:LS}(h:LawAt t H S)(s:Same H H'):LawAt t H' S:=
 ⟨s _ _ h.cols,h.heads.same s,h.lh,h.tab.same s,h.kin,h.ok,h.ris,h.bel,h.few,s _ _ h.dic,h.rlen,λ r hr=>⟨s _ _ (h.rows r hr).1,(h.rows r hr).2⟩,h.cells,s _ _ h.words,h.wlen,λ a ha=>⟨s _ _ (h.wrd a ha).1,(h.wrd a ha).2⟩,h.wcol,h.apart,h.nd⟩
theorem LawAt.keep(h:LawAt t H S)(k:KpL (FP S.tb S.ll S.ps) H H'):H' S.l=some (.lst (S.as.map V.ref))/\HeadsAt H' S.as S.hs/\H' S.dr=some (.dK (b8 S.living S.rows))/\(∀ r∈S.rows,H' r.1=some (.lst r.2))/\H' S.lw=some (.lst (S.wa.map λ a=>V.ref a.1))/\∀ a∈S.wa,H' a.1=some (.lst a.2):=by
 have ap:=h.apart;unfold LS.own at ap;refine ⟨k _ _ (ap _ (by simp)) h.cols,⟨h.heads.1,λ i a x e1 e2=>k _ _ (ap a ?_) (h.heads.2 i a x e1 e2)⟩,k _ _ (ap _ (by simp)) h.dic,λ r hr=>k _ _ (ap r.1 ?_) (h.rows r hr).1,k _ _ (ap _ (by simp)) h.words,λ a ha=>k _ _ (ap a.1 ?_) (h.wrd a ha).1⟩
 ·simp [aS e1]
 ·have:r.1∈S.rows.map (·.1):=List.mem_map.mpr ⟨r,hr,rfl⟩;simp only [al_mc,al_mp];exact .inr (.inr (.inr (.inr (.inl this))))
 ·have:a.1∈S.wa.map (·.1):=List.mem_map.mpr ⟨a,ha,rfl⟩;simp only [al_mc,al_mp];exact .inr (.inr (.inr (.inr (.inr this))))
theorem LawAt.okp(h:LawAt t H S)(hg:S.g<=8):∀ q∈S.ps,q.2.2.ok/\q.2.2.col.length=S.living.length:=λ q hq=>⟨PM.okN_ok (h.ok q hq).1 (by omega),(h.ok q hq).2⟩
theorem LawAt.good(h:LawAt t H S){xs:List V}(hx:ja S.hs xs):eC S.ps xs=true:=by
 unfold eC;rw [aN (by rw [hx.1,h.plen]),Bool.true_and,List.all_eq_true];rintro ⟨q,x⟩ hm;obtain ⟨i,hi⟩:=List.getElem?_of_mem hm;obtain ⟨e1,e2⟩:=List.getElem?_zip_eq_some.mp hi;have e1:S.ps[i]?=some q:=e1;have e2:xs[i]?=some x:=e2;have hl:i < S.hs.length:=by rw [← h.plen];exact (al_gs.mp e1).1
 have eh:S.hs[i]?=some S.hs[i]:=aA hl;show q.2.2.takes x=true;rw [(h.kin i _ q eh e1).1 x];exact hx.2.2 i _ x eh e2
theorem LawAt.bad(h:LawAt t H S){ys:List V}(hy:se S.hs ys):eC S.ps ys=false:=by
 unfold eC;rcases hy with hy | ⟨i,hh,y,e1,e2,e3⟩
 ·rw [aK (by rw [h.plen];exact hy)];rfl
 ·have hl:i < S.ps.length:=by rw [h.plen];exact (al_gs.mp e1).1
  have eq:S.ps[i]?=some S.ps[i]:=aA hl;have hm:(S.ps[i],y)∈S.ps.zip ys:=aS (i:=i) (List.getElem?_zip_eq_some (z:=(S.ps[i],y)) |>.mpr ⟨eq,e2⟩);have:(S.ps.zip ys).all (λ q=>q.1.2.2.takes q.2)=false:=by
   rw [List.all_eq_false];refine ⟨_,hm,?_⟩;show ¬ S.ps[i].2.2.takes y=true;rw [(h.kin i _ _ e1 eq).1 y,e3];exact bz
  rw [this,Bool.and_false]
theorem TabAt.kept{o:Obj}(h:TabAt t H tb pd ll o ns ps living coming)(k:KpL L H H')(hL:∀ b∈L,b∉FP tb ll ps/\b≠pd):TabAt t H' tb pd ll o ns ps living coming:=by
 obtain ⟨⟨dx,h1⟩,h2,h3,h4,h5⟩:=h;refine ⟨⟨dx,k _ _ (λ z=>(hL _ z).1 (by unfold FP;simp)) h1⟩,k _ _ (λ z=>(hL _ z).2 rfl) h2,k _ _ (λ z=>(hL _ z).1 (by unfold FP;simp)) h3,⟨λ q hq=>PM.keep (h4.1 q hq) k λ b hb hb2=>(hL b hb2).1 ?_,h4.2⟩,h5⟩;exact bp _ (bp _ (List.mem_flatten.mpr ⟨_,List.mem_map.mpr ⟨q,hq,rfl⟩,hb⟩))
theorem iG(tb ll:Addr)(i:Nat)(ps:List bb)(fs:List (PM->PM)):FP tb ll (bT i ps fs)=FP tb ll ps:=by
 unfold FP;rw [uS (kH i ps fs)]
theorem nY:∀ {ps:List bb} {fs:List (PM->PM)} {i:Nat} {q:bb} {f:PM->PM},ps[i]?=some q->fs[i]?=some f->(bT ps.length ps fs)[i]?=some (q.1,q.2.1,f q.2.2)
 | [],_,_,_,_,h,_=>by cases h
 | q::r,[],i,_,_,_,h=>by cases h
 | q::r,f::s,0,_,_,h1,h2=>by cases h1;cases h2;rfl
 | q::r,f::s,i+1,q',f',h1,h2=>nY (ps:=r) (fs:=s) (i:=i) h1 h2
theorem PM.drop_takes(p:PM)(k:Nat)(x:V):(p.drop k).takes x=p.takes x:=by cases p <;> rfl
theorem PM.put_takes(p:PM)(y x:V):(p.put y).takes x=p.takes x:=by cases p <;> rfl
noncomputable def LS.dropped(S:LS)(k:Nat):LS:={ S with ps:=bT S.ps.length S.ps (List.replicate S.ps.length (PM.drop k)),living:=S.living.eraseIdx k,rows:=S.rows.eraseIdx k }
theorem LawAt.drop{t:Ad}{H H':Hp}{S:LS}(h:LawAt t H S){k:Nat}{n:Int}(hk:S.living[k]?=some n)(kk:KpL (FP S.tb S.ll S.ps) (upd H S.dr (.dK (b8 (S.living.eraseIdx k) (S.rows.eraseIdx k)))) H')(hT:TabAt t H' S.tb S.pd S.ll S.o (S.hs.map (·.1)) (bT S.ps.length S.ps (List.replicate S.ps.length (PM.drop k))) (S.living.eraseIdx k) S.g):LawAt t H' (S.dropped k):=by
 have hkl:k < S.living.length:=(al_gs.mp hk).1;have ap:=h.apart;have kd:∀ b o,b∈S.own->b≠S.dr->H b=some o->H' b=some o:=λ b o hb hn e=>kk b o (ap b hb) (by rw [ag hn];exact e);have dne:∀ {b:Addr} {o:HO},H b=some o->(∀ kvs,o≠.dK kvs)->b≠S.dr:=λ {b o} e ho z=>by
  rw [z,h.dic] at e;exact ho _ (Option.some.inj e).symm
 have own1:S.l∈S.own:=by unfold LS.own;simp
 have own2:S.lw∈S.own:=by unfold LS.own;simp
 have own3:∀ a∈S.as,a∈S.own:=λ a ha=>by unfold LS.own;simp [ha]
 have own4:∀ r∈S.rows,r.1∈S.own:=λ r hr=>by
  have:r.1∈S.rows.map (·.1):=List.mem_map.mpr ⟨r,hr,rfl⟩;unfold LS.own;simp only [al_mc,al_mp];exact .inr (.inr (.inr (.inr (.inl this))))
 have own5:∀ a∈S.wa,a.1∈S.own:=λ a ha=>by
  have:a.1∈S.wa.map (·.1):=List.mem_map.mpr ⟨a,ha,rfl⟩;unfold LS.own;simp only [al_mc,al_mp];exact .inr (.inr (.inr (.inr (.inr this))))
 have pl:S.ps.length=S.hs.length:=h.plen;have part:∀ {j:Nat} {q:bb},(bT S.ps.length S.ps (List.replicate S.ps.length (PM.drop k)))[j]?=some q->∃ q0,S.ps[j]?=some q0/\q=(q0.1,q0.2.1,q0.2.2.drop k):=λ {j q} e=>by
  have hj:j < S.ps.length:=by
   have:=(al_gs.mp e).1
   rwa [nZ] at this
  have e0:S.ps[j]?=some S.ps[j]:=aA hj;have:=nY (fs:=List.replicate S.ps.length (PM.drop k)) e0 (by rw [List.getElem?_replicate,if_pos hj]);rw [this] at e;exact ⟨_,e0,(Option.some.inj e).symm⟩
 refine ⟨kd _ _ own1 (dne h.cols (by intro _ z;cases z)) h.cols,⟨h.heads.1,λ i a x e1 e2=>kd _ _ (own3 a (aS e1)) (dne (h.heads.2 i a x e1 e2) (by intro _ z;cases z)) (h.heads.2 i a x e1 e2)⟩,h.lh,hT,λ i hh q e1 e2=>?_,λ q hq=>?_,?_,λ m hm=>h.bel m (List.mem_of_mem_eraseIdx hm),?_,?_,?_,λ r hr=>?_,λ i j r q e1 e2=>?_,kd _ _ own2 (dne h.words (by intro _ z;cases z)) h.words,h.wlen,λ a ha=>?_,λ j a q ws ns e1 e2 e3=>?_,?_,?_⟩
 ·obtain ⟨q0,e0,rfl⟩:=part e2;obtain ⟨a,b,c⟩:=h.kin i hh q0 e1 e0;refine ⟨λ x=>?_,λ z=>?_,λ z=>?_⟩
  ·rw [← a x];exact PM.drop_takes _ _ _
  ·obtain ⟨ws,ns,e⟩:=b z;show ∃ ws ns,q0.2.2.drop k = .wrd ws ns;rw [e];exact ⟨_,_,rfl⟩
  ·obtain ⟨xs,e⟩:=c z;show ∃ xs,q0.2.2.drop k = .num xs;rw [e];exact ⟨_,rfl⟩
 ·obtain ⟨j,hj⟩:=List.getElem?_of_mem hq;obtain ⟨q0,e0,rfl⟩:=part hj;obtain ⟨a,b⟩:=h.ok q0 (aS e0);obtain ⟨c,d⟩:=PM.drop_ok (k:=k) a (by rw [b];exact hkl);refine ⟨c,?_⟩;show (q0.2.2.drop k).col.length=(S.living.eraseIdx k).length;rw [d,b,List.length_eraseIdx,if_pos hkl]
 ·exact h.ris.sublist (List.eraseIdx_sublist _ _)
 ·exact Nat.le_trans (List.Sublist.length_le (List.eraseIdx_sublist _ _)) h.few
 ·exact kk S.dr _ (ap S.dr (by unfold LS.own;simp)) ah
 ·show (S.rows.eraseIdx k).length=(S.living.eraseIdx k).length;rw [List.length_eraseIdx,List.length_eraseIdx,h.rlen]
 ·have hr0:=List.mem_of_mem_eraseIdx hr;obtain ⟨a,b⟩:=h.rows r hr0;exact ⟨kd _ _ (own4 r hr0) (dne a (by intro _ z;cases z)) a,b⟩
 ·obtain ⟨q0,e0,rfl⟩:=part e2;have e1:(S.rows.eraseIdx k)[i]?=some r:=e1;show r.2[j]?=(q0.2.2.drop k).cells[i]?;rw [PM.drop_cells,List.getElem?_eraseIdx];rw [List.getElem?_eraseIdx] at e1;by_cases hik:i < k
  ·rw [if_pos hik] at e1 ⊢;exact h.cells i j r q0 e1 e0
  ·rw [if_neg hik] at e1 ⊢;exact h.cells (i+1) j r q0 e1 e0
 ·obtain ⟨a1,b1⟩:=h.wrd a ha;exact ⟨kd _ _ (own5 a ha) (dne a1 (by intro _ z;cases z)) a1,b1⟩
 ·obtain ⟨q0,e0,rfl⟩:=part e2;have e3:q0.2.2.drop k = .wrd ws ns:=e3;cases hq:q0.2.2 with
  | num xs=>rw [hq] at e3;cases e3
  | wrd ws0 ns0=>
   rw [hq] at e3;have e4:ws0=ws:=(PM.wrd.inj e3).1;rw [← e4];exact h.wcol j a q0 ws0 ns0 e1 e0 hq
 ·intro b hb;show b∉FP S.tb S.ll (bT _ _ _);rw [iG];refine ap b ?_;unfold LS.own at hb ⊢;have hm:∀ {b},b∈(S.rows.eraseIdx k).map (·.1)->b∈S.rows.map (·.1):=λ {b} hb=>by
   obtain ⟨r,hr,e⟩:=List.mem_map.mp hb;exact List.mem_map.mpr ⟨r,List.mem_of_mem_eraseIdx hr,e⟩
  simp only [al_mc,al_mp] at hb ⊢;rcases hb with y | y | y | y | y | y
  ·exact .inl y
  ·exact .inr (.inl y)
  ·exact .inr (.inr (.inl y))
  ·exact .inr (.inr (.inr (.inl y)))
  ·exact .inr (.inr (.inr (.inr (.inl (hm y)))))
  ·exact .inr (.inr (.inr (.inr (.inr y))))
 ·refine h.nd.sublist ?_;exact (((List.eraseIdx_sublist S.rows k).map (·.1)).append_right _).cons_cons _ |>.cons_cons _
noncomputable def LS.added(S:LS)(lr:Addr)(xs:List V)(wa:List (Addr × List V)):LS:={ S with ps:=bT S.ps.length S.ps (xs.map PM.put),living:=S.living++[(S.g:Int)],g:=S.g+1,rows:=S.rows++[(lr,xs)],wa:=wa }
theorem LawAt.put{t:Ad}{H H':Hp}{S:LS}(h:LawAt t H S){lr:Addr}{xs:List V}{wa:List (Addr × List V)}(g8:S.g<=8)(RF:ja S.hs xs)(hlo:lr∉S.own)(hlF:lr∉FP S.tb S.ll S.ps)(kk:KpL (S.dr::(FP S.tb S.ll S.ps++S.wa.map (·.1))) H H')(hlr:H lr=some (.lst xs))(hd:H' S.dr=some (.dK (b8 S.living S.rows++[(.inl (some (S.g:Int)),.ref lr)])))(hT:TabAt t H' S.tb S.pd S.ll S.o (S.hs.map (·.1)) (bT S.ps.length S.ps (xs.map PM.put)) (S.living++[(S.g:Int)]) ((S.g:Int)+1))(hwa:wa.map (·.1)=S.wa.map (·.1))(hw:∀ a∈wa,H' a.1=some (.lst a.2)/\a.2.all bN=true/\a.2.length<=S.g+1)(hwc:∀ (j:Nat) (a:Addr × List V) (q:bb) (ws:List Str) (ns:List OI) (x:V),wa[j]?=some a->S.ps[j]?=some q->xs[j]?=some x->q.2.2.put x = .wrd ws ns->a.2=ws.map V.str):LawAt t H' (S.added lr xs wa):=by
 have ap:=h.apart;have kd:∀ b o,b∈S.own->b≠S.dr->b∉S.wa.map (·.1)->H b=some o->H' b=some o:=λ b o hb hn hw e=>kk b o (λ z=>by
  rcases al_mc.mp z with y | y
  ·exact hn y
  rcases al_mp.mp y with y | y
  ·exact ap b hb y
  ·exact hw y) e
 have dne:∀ {b:Addr} {o:HO},H b=some o->(∀ kvs,o≠.dK kvs)->b≠S.dr:=λ {b o} e ho z=>by
  rw [z,h.dic] at e;exact ho _ (Option.some.inj e).symm
 have wne:∀ {b:Addr} {o:HO},H b=some o->(∀ xs,o≠.lst xs)->b∉S.wa.map (·.1):=λ {b o} e ho z=>by
  obtain ⟨a,ha,rfl⟩:=List.mem_map.mp z;rw [(h.wrd a ha).1] at e;exact ho _ (Option.some.inj e).symm
 have nd:=h.nd;have nd1:=List.nodup_cons.mp nd;have nd2:=List.nodup_cons.mp nd1.2;have nd3:=List.nodup_append.mp nd2.2;have own1:S.l∈S.own:=by unfold LS.own;simp
 have own2:S.lw∈S.own:=by unfold LS.own;simp
 have own3:∀ a∈S.as,a∈S.own:=λ a ha=>by unfold LS.own;simp [ha]
 have own4:∀ {b},b∈S.rows.map (·.1)->b∈S.own:=λ {b} hb=>by
  unfold LS.own;simp only [al_mc,al_mp];exact .inr (.inr (.inr (.inr (.inl hb))))
 have own5:∀ {b},b∈S.wa.map (·.1)->b∈S.own:=λ {b} hb=>by
  unfold LS.own;simp only [al_mc,al_mp];exact .inr (.inr (.inr (.inr (.inr hb))))
 have pl:S.ps.length=S.hs.length:=h.plen;have xl:xs.length=S.ps.length:=by rw [RF.1,pl]
 have part:∀ {j:Nat} {q:bb},(bT S.ps.length S.ps (xs.map PM.put))[j]?=some q->∃ q0 x hh,S.ps[j]?=some q0/\xs[j]?=some x/\S.hs[j]?=some hh/\q0.2.2.takes x=true/\q=(q0.1,q0.2.1,q0.2.2.put x):=λ {j q} e=>by
  have hj:j < S.ps.length:=by
   have:=(al_gs.mp e).1
   rwa [nZ] at this
  have e0:S.ps[j]?=some S.ps[j]:=aA hj;have ex:xs[j]?=some (xs[j]'(by omega)):=aA (by omega);have eh:S.hs[j]?=some (S.hs[j]'(by omega)):=aA (by omega);have:=nY (fs:=xs.map PM.put) e0 (by rw [aH,ex];rfl);rw [this] at e;refine ⟨_,_,_,e0,ex,eh,?_,(Option.some.inj e).symm⟩;rw [(h.kin j _ _ eh e0).1];exact RF.2.2 j _ _ eh ex
 refine ⟨kd _ _ own1 (dne h.cols (by intro _ z;cases z)) (λ z=>nd1.1 (bp _ (List.mem_append_right _ z))) h.cols,⟨h.heads.1,λ i a x e1 e2=>kd _ _ (own3 a (aS e1)) (dne (h.heads.2 i a x e1 e2) (by intro _ z;cases z)) (wne (h.heads.2 i a x e1 e2) (by intro _ z;cases z)) (h.heads.2 i a x e1 e2)⟩,h.lh,?_,λ i hh q e1 e2=>?_,λ q hq=>?_,?_,λ m hm=>?_,?_,?_,?_,λ r hr=>?_,λ i j r q e1 e2=>?_,?_,?_,hw,λ j a q ws ns e1 e2 e3=>?_,?_,?_⟩
 ·exact hT
 ·obtain ⟨q0,x,h0,e0,ex,eh,tk,rfl⟩:=part e2;obtain ⟨a,b,c⟩:=h.kin i hh q0 e1 e0;refine ⟨λ y=>?_,λ z=>?_,λ z=>?_⟩
  ·rw [← a y];exact PM.put_takes _ _ _
  ·obtain ⟨ws,ns,e⟩:=b z;show ∃ ws ns,q0.2.2.put x = .wrd ws ns;rw [e];exact ⟨_,_,rfl⟩
  ·obtain ⟨xs,e⟩:=c z;show ∃ xs,q0.2.2.put x = .num xs;rw [e];exact ⟨_,rfl⟩
 ·obtain ⟨j,hj⟩:=List.getElem?_of_mem hq;obtain ⟨q0,x,h0,e0,ex,eh,tk,rfl⟩:=part hj;obtain ⟨a,b⟩:=h.ok q0 (aS e0);have:=h.few;obtain ⟨c,d⟩:=PM.put_ok (x:=x) a tk (by rw [b];omega) (by omega);refine ⟨c,?_⟩;show (q0.2.2.put x).col.length=(S.living++[(S.g:Int)]).length;rw [d,b,aO];rfl
 ·refine List.pairwise_append.mpr ⟨h.ris,List.pairwise_singleton _ _,λ a ha b hb=>?_⟩;rw [al_mi.mp hb];exact (h.bel a ha).2
 ·show 0<=m/\m < ((S.g+1:Nat):Int);rcases al_mp.mp hm with y | y
  ·have:=h.bel m y;omega
  ·rw [al_mi.mp y];omega
 ·have:=h.few;show (S.living++[(S.g:Int)]).length<=S.g+1;rw [aO];exact Nat.succ_le_succ this
 ·show H' S.dr=some (.dK (b8 (S.living++[(S.g:Int)]) (S.rows++[(lr,xs)])));rw [zh9 h.rlen];exact hd
 ·show (S.rows++[(lr,xs)]).length=(S.living++[(S.g:Int)]).length;rw [aO,aO,h.rlen];rfl
 ·rcases al_mp.mp hr with y | y
  ·obtain ⟨a,b⟩:=h.rows r y;have hm:r.1∈S.rows.map (·.1):=List.mem_map.mpr ⟨r,y,rfl⟩;exact ⟨kd _ _ (own4 hm) (dne a (by intro _ z;cases z)) (λ z=>nd3.2.2 _ hm _ z rfl) a,b⟩
  ·rw [al_mi.mp y];refine ⟨kk lr _ (λ z=>?_) hlr,RF.2.1,RF.1⟩;rcases al_mc.mp z with y | y
   ·exact dne hlr (by intro _ z;cases z) y
   rcases al_mp.mp y with y | y
   ·exact hlF y
   ·exact hlo (own5 y)
 ·obtain ⟨q0,x,h0,e0,ex,eh,tk,rfl⟩:=part e2;have e1:(S.rows++[(lr,xs)])[i]?=some r:=e1;obtain ⟨a,b⟩:=h.ok q0 (aS e0);have cl:q0.2.2.cells.length=S.rows.length:=by
   rw [h.rlen,← b];cases q0.2.2 with
   | num xs=>exact aj _
   | wrd ws ns=>exact aj _
  show r.2[j]?=(q0.2.2.put x).cells[i]?;rw [PM.put_cells a tk];by_cases hi:i < S.rows.length
  ·rw [List.getElem?_append_left hi] at e1;rw [List.getElem?_append_left (by omega)];exact h.cells i j r q0 e1 e0
  ·rw [List.getElem?_append_right (by omega)] at e1;rw [List.getElem?_append_right (by omega),cl];have h1:i - S.rows.length=0:=by
    have:=(al_gs.mp e1).1;have:i - S.rows.length < 1:=this;omega
   rw [h1] at e1 ⊢;cases e1;exact ex
 ·show H' S.lw=some (.lst (wa.map λ a=>V.ref a.1));have em:wa.map (λ a=>V.ref a.1)=S.wa.map λ a=>V.ref a.1:=by
   have:=congrArg (List.map V.ref) hwa;rw [List.map_map,List.map_map] at this;exact this
  rw [em];exact kd _ _ own2 (dne h.words (by intro _ z;cases z)) (λ z=>nd2.1 (List.mem_append_right _ z)) h.words
 ·have:=congrArg List.length hwa;rw [aj,aj] at this;show wa.length=S.hs.length;rw [this,h.wlen]
 ·obtain ⟨q0,x,h0,e0,ex,eh,tk,rfl⟩:=part e2;exact hwc j a q0 ws ns x e1 e0 ex e3
 ·intro b hb;show b∉FP S.tb S.ll (bT _ _ _);rw [iG];unfold LS.own at hb;simp only [al_mc,al_mp] at hb;have key:b=lr\/b∈S.own:=by
   unfold LS.own;simp only [al_mc,al_mp];rcases hb with y | y | y | y | y | y
   ·exact .inr (.inl y)
   ·exact .inr (.inr (.inl y))
   ·exact .inr (.inr (.inr (.inl y)))
   ·exact .inr (.inr (.inr (.inr (.inl y))))
   ·have y:b∈(S.rows++[(lr,xs)]).map (·.1):=y;rw [aJ] at y;rcases al_mp.mp y with y | y
    ·exact .inr (.inr (.inr (.inr (.inr (.inl y)))))
    ·exact .inl (al_mi.mp y)
   ·have y:b∈wa.map (·.1):=y;rw [hwa] at y;exact .inr (.inr (.inr (.inr (.inr (.inr y)))))
  rcases key with rfl | y
  ·exact hlF
  ·exact ap b y
 ·show (S.l::S.lw::((S.rows++[(lr,xs)]).map (·.1)++wa.map (·.1))).Nodup;rw [hwa,aJ];have e:List.Perm (S.l::S.lw::((S.rows.map (·.1)++[(lr,xs)].map (·.1))++S.wa.map (·.1))) (lr::S.l::S.lw::(S.rows.map (·.1)++S.wa.map (·.1))):=by
   have p1:List.Perm ((S.rows.map (·.1)++[(lr,xs)].map (·.1))++S.wa.map (·.1)) (lr::(S.rows.map (·.1)++S.wa.map (·.1))):=by
    rw [List.append_assoc];exact List.perm_middle
   exact ((p1.cons _).cons _).trans ((List.Perm.swap _ _ _).cons _ |>.trans (List.Perm.swap _ _ _))
  refine e.nodup_iff.mpr (List.nodup_cons.mpr ⟨λ hm=>hlo ?_,nd⟩);unfold LS.own;simp only [al_mc,al_mp] at hm ⊢;rcases hm with y | y | y | y
  ·exact .inl y
  ·exact .inr (.inr (.inl y))
  ·exact .inr (.inr (.inr (.inr (.inl y))))
  ·exact .inr (.inr (.inr (.inr (.inr y))))
theorem zc4(z:Str)(l:List Str):inV (.str z) (l.map V.str)=decide (z∈l):=by
 unfold inV;rw [Bool.eq_iff_iff,List.any_eq_true];simp only [decide_eq_true_eq];constructor
 ·rintro ⟨v,hv,e⟩;obtain ⟨m,hm,rfl⟩:=List.mem_map.mp hv;have e:(m == z)=true:=e;rw [← beq_iff_eq.mp e];exact hm
 ·intro h;exact ⟨_,List.mem_map.mpr ⟨z,h,rfl⟩,gW rfl⟩
noncomputable def upW(a:Addr × List V)(x:V):Addr × List V:=if x = .non\/inV x a.2=true then a else (a.1,a.2++[x])
theorem yH(a:Addr × List V)(x:V):(upW a x).1=a.1:=by
 unfold upW
 split <;> rfl
theorem zj4{a:Addr × List V}(ha:a.2=ws.map V.str)(h:gq x=true):(upW a x).2=(cA ws x).1.map V.str:=by
 unfold upW;rcases lH h with rfl | ⟨z,rfl⟩
 ·rw [if_pos (.inl rfl)];exact ha
 ·rw [ha,zc4];by_cases hm:z∈ws
  ·have en:cA ws (.str z)=(ws,some (ws.idxOf z:Int)):=if_pos hm;rw [en,if_pos (.inr (aN hm))];exact ha
  ·have en:cA ws (.str z)=(ws++[z],some (ws.length:Int)):=if_neg hm;rw [en,if_neg (λ y=>y.elim (λ y=>by cases y) λ y=>hm (of_decide_eq_true y))];show ws.map V.str++[V.str z]=(ws++[z]).map V.str;rw [aJ];rfl
theorem oq(h:okT x):bN x=true:=by
 cases x <;> first | rfl | exact h.elim
theorem zj3{a:Addr × List V}(ha:a.2.all bN=true)(hl:a.2.length<=g)(hx:okT x):(upW a x).2.all bN=true/\(upW a x).2.length<=g+1:=by
 unfold upW
 split
 ·exact ⟨ha,by omega⟩
 ·refine ⟨?_,?_⟩
  ·show (a.2++[x]).all bN=true;rw [List.all_append,ha,Bool.true_and,List.all_cons,oq hx];rfl
  ·show (a.2++[x]).length<=g+1;rw [aO];exact Nat.succ_le_succ hl
theorem LawAt.fresh(h:LawAt t H S){b:Addr}(hb:H b=none):b∉S.own/\b∉FP S.tb S.ll S.ps:=by
 have no:∀ {c:Addr} {o:HO},H c=some o->b≠c:=λ {c o} e z=>by rw [z,e] at hb;cases hb
 constructor
 ·unfold LS.own;intro z;simp only [al_mc,al_mp] at z;rcases z with y | y | y | y | y | y
  ·exact no h.cols y
  ·exact no h.dic y
  ·exact no h.words y
  ·obtain ⟨i,hi⟩:=List.getElem?_of_mem y;have hl:i < S.hs.length:=by rw [← h.heads.1];exact (al_gs.mp hi).1
   exact no (h.heads.2 i b _ hi (aA hl)) rfl
  ·obtain ⟨r,hr,e⟩:=List.mem_map.mp y;exact no (h.rows r hr).1 e.symm
  ·obtain ⟨r,hr,e⟩:=List.mem_map.mp y;exact no (h.wrd r hr).1 e.symm
 ·unfold FP;intro z;rcases al_mc.mp z with y | z
  ·obtain ⟨dx,e⟩:=h.tab.tab;exact no e y
  rcases al_mc.mp z with y | z
  ·exact no h.tab.liv y
  obtain ⟨fp,hfp,hz⟩:=List.mem_flatten.mp z;obtain ⟨q',hq',rfl⟩:=List.mem_map.mp hfp;rcases PM.kind (h.tab.par.1 q' hq') hz with ⟨_,_,_,e,_⟩ | ⟨_,e⟩ <;> exact no e rfl
theorem KpL.sameOf(s:Same H H1)(k:KpL L H1 H2)(hL:∀ b∈L,H b=none):Same H H2:=λ b o e=>k b o (λ z=>by rw [hL b z] at e;cases e) (s b o e)
theorem LawAt.drpd(h:LawAt t H S):S.dr≠S.pd/\S.dr∉FP S.tb S.ll S.ps/\∀ a∈S.wa,a.1≠S.pd/\a.1∉FP S.tb S.ll S.ps/\a.1≠S.dr:=by
 refine ⟨λ z=>?_,h.apart _ (by unfold LS.own;simp),λ a ha=>⟨λ z=>?_,h.apart _ ?_,λ z=>?_⟩⟩
 ·have:=h.dic;rw [z,h.tab.dic] at this;cases this
 ·have:=(h.wrd a ha).1;rw [z,h.tab.dic] at this;cases this
 ·have:a.1∈S.wa.map (·.1):=List.mem_map.mpr ⟨a,ha,rfl⟩;unfold LS.own;simp only [al_mc,al_mp];exact .inr (.inr (.inr (.inr (.inr this))))
 ·have:=(h.wrd a ha).1;rw [z,h.dic] at this;cases this
theorem nD{n:Int}(h:n∈l):l[l.idxOf n]?=some n:=by
 have hi:=List.idxOf_lt_length_of_mem h;rw [aA hi,List.getElem_idxOf hi]
theorem LawAt.rowAt(h:LawAt t H S){n:Int}(hn:n∈S.living):∃ r,S.rows[S.living.idxOf n]?=some r/\ba (b8 S.living S.rows) (.inl (some n))=some (.ref r.1):=by
 have hi:S.living.idxOf n < S.rows.length:=by rw [h.rlen];exact List.idxOf_lt_length_of_mem hn
 exact ⟨_,aA hi,oQ h.ris (nD hn) (aA hi)⟩
theorem qV{α:Type}:∀ {l:List α} {j:Nat} {b:α},l[j]?=some b->l.set j b=l
 | [],_,_,h=>by cases h
 | a::r,0,b,h=>by cases h;rfl
 | a::r,j+1,b,h=>by show a::r.set j b=a::r;rw [qV (l:=r) h]
structure WAt (H0:Hp) (wa:List (Addr × List V)) (xs:List V) (H:Hp) (j:Nat) (wb:List (Addr × List V)):Prop where
 kp:KpL (wa.map (·.1)) H0 H
 ad:wb.map (·.1)=wa.map (·.1)
 at':∀ a∈wb,H a.1=some (.lst a.2)
 eq:∀ (m:Nat) (a:Addr × List V) (x:V),wa[m]?=some a->xs[m]?=some x->wb[m]?=some (if m < j then upW a x else a)
theorem WAt.step{H0:Hp}{xs:List V}{a:Addr × List V}(h:WAt H0 wa xs H j wb)(nd:(wa.map (·.1)).Nodup)(ea:wa[j]?=some a)(ex:xs[j]?=some x)(hH:(H'=H/\upW a x=a)\/H'=upd H a.1 (.lst (upW a x).2)):WAt H0 wa xs H' (j+1) (wb.set j (upW a x)):=by
 have wj:wb[j]?=some a:=by
  have:=h.eq j a x ea ex
  rwa [if_neg (Nat.lt_irrefl _)] at this
 have hjl:j < wb.length:=(al_gs.mp wj).1;refine ⟨?_,?_,λ b hb=>?_,λ m a' x' e1 e2=>?_⟩
 ·rcases hH with ⟨rfl,_⟩ | rfl
  ·exact h.kp
  ·exact h.kp.trans (KpL.put (List.mem_map.mpr ⟨a,aS ea,rfl⟩))
 ·rw [List.map_set,qV,h.ad];rw [aH,wj,yH];rfl
 ·obtain ⟨i,hi⟩:=List.getElem?_of_mem hb;rcases hH with ⟨rfl,e⟩ | rfl
  ·rw [e,qV wj] at hi;exact h.at' b (aS hi)
  ·by_cases hij:j=i
   ·subst hij;rw [List.getElem?_set_self hjl] at hi;cases hi;rw [yH];exact ah
   ·rw [List.getElem?_set_ne hij] at hi;rw [ag]
    ·exact h.at' b (aS hi)
    ·intro e;refine hij ((List.getElem?_inj (l:=wb.map (·.1)) (by rw [aj];exact hjl) (by rw [h.ad];exact nd)).mp ?_);rw [aH,aH,wj,hi];show some a.1=some b.1;rw [e]
 ·by_cases hmj:j=m
  ·subst hmj;rw [ea] at e1;rw [ex] at e2;cases e1;cases e2;rw [List.getElem?_set_self hjl,if_pos (Nat.lt_succ_self _)]
  ·rw [List.getElem?_set_ne hmj,h.eq m a' x' e1 e2];by_cases hm:m < j
   ·rw [if_pos hm,if_pos (by omega)]
   ·rw [if_neg hm,if_neg (by omega)]
theorem WAt.done{H14 H15 H16:Hp}{xs:List V}{lr:Addr}(LE:LawAt t H14 S)(g8:S.g<=8)(RF:ja S.hs xs)(hlo:lr∉S.own)(hlF:lr∉FP S.tb S.ll S.ps)(hlr:H14 lr=some (.lst xs))(k15:KpL (FP S.tb S.ll S.ps) H14 H15)(T15:TabAt t H15 S.tb S.pd S.ll S.o (S.hs.map (·.1)) (bT S.ps.length S.ps (xs.map PM.put)) (S.living++[(S.g:Int)]) ((S.g:Int)+1))(e16:H16=upd H15 S.dr (.dK (b8 S.living S.rows++[(.inl (some (S.g:Int)),.ref lr)])))(h:WAt H16 S.wa xs H' S.hs.length wb):LawAt t H' (S.added lr xs wb):=by
 obtain ⟨dne,dnF,wne⟩:=LE.drpd;have T16:TabAt t H16 S.tb S.pd S.ll S.o (S.hs.map (·.1)) (bT S.ps.length S.ps (xs.map PM.put)) (S.living++[(S.g:Int)]) ((S.g:Int)+1):=by
  rw [e16];exact T15.kept (L:=[S.dr]) (KpL.put (al_mi.mpr rfl)) λ b hb=>by
   rw [al_mi.mp hb,iG];exact ⟨dnF,dne⟩
 have at0:∀ {j:Nat} {a:Addr × List V},wb[j]?=some a->∃ a0 x hh,S.wa[j]?=some a0/\xs[j]?=some x/\S.hs[j]?=some hh/\a=upW a0 x:=λ {j a} e=>by
  have hl:wb.length=S.hs.length:=by
   have:=congrArg List.length h.ad;rw [aj,aj,LE.wlen] at this;exact this
  have hj:j < S.hs.length:=by rw [← hl];exact (al_gs.mp e).1
  have ea:S.wa[j]?=some (S.wa[j]'(by rw [LE.wlen];exact hj)):=aA _;have ex:xs[j]?=some (xs[j]'(by rw [RF.1];exact hj)):=aA _;have:=h.eq j _ _ ea ex;rw [if_pos hj,e] at this;exact ⟨_,_,_,ea,ex,aA hj,Option.some.inj this⟩
 refine LE.put g8 RF hlo hlF ?_ hlr ?_ (T16.kept h.kp λ b hb=>?_) h.ad (λ a ha=>?_) (λ j a q ws ns x e1 e2 e3 e4=>?_)
 ·refine (k15.mono λ b hb=>bp _ (List.mem_append_left _ hb)).trans ((?_:KpL _ H15 H16).trans (h.kp.mono λ b hb=>bp _ (List.mem_append_right _ hb)));rw [e16];exact KpL.put bB
 ·refine h.kp _ _ (λ z=>?_) (by rw [e16];exact ah);obtain ⟨a,ha,e⟩:=List.mem_map.mp z;exact (wne a ha).2.2 e
 ·obtain ⟨a,ha,rfl⟩:=List.mem_map.mp hb;rw [iG];exact ⟨(wne a ha).2.1,(wne a ha).1⟩
 ·obtain ⟨j,hj⟩:=List.getElem?_of_mem ha;obtain ⟨a0,x,hh,e1,e2,e3,rfl⟩:=at0 hj;obtain ⟨_,b,c⟩:=LE.wrd a0 (aS e1);exact ⟨h.at' _ ha,zj3 b c (RF.2.1 x (aS e2))⟩
 ·obtain ⟨a0,x',hh,f1,f2,f3,rfl⟩:=at0 e1;rw [e3] at f2;cases f2;obtain ⟨tk,_⟩:=LE.kin j hh q f3 e2;have tkx:q.2.2.takes x=true:=by rw [tk x];exact RF.2.2 j hh x f3 e3
  cases hq:q.2.2 with
  | num ys=>rw [hq] at e4;cases e4
  | wrd ws0 ns0=>
   rw [hq] at e4 tkx;have e5:(cA ws0 x).1=ws:=(PM.wrd.inj e4).1;rw [← e5];exact zj4 (LE.wcol j a0 q ws0 ns0 f1 e2 hq) tkx
theorem LawAt.keptAt(h:LawAt t H S){hh:Hd2}{a r:Addr × List V}{o:OI}(eh:S.hs[j]?=some hh)(eq:S.ps[j]?=some q)(ea:S.wa[j]?=some a)(er:S.rows[k]?=some r)(eo:q.2.2.col[k]?=some o):
  ∃ x,r.2[j]?=some x/\((¬ (hh.2 = "word" /\ x≠.non)/\x=ov o)\/∃ (ws:List Str) (y:Str),x = .str y/\hh.2 = "word" /\ a.2=ws.map V.str/\y∈ws/\V.int (ws.idxOf y)=ov o):=by
 have ec:=h.cells k j r q er eq;obtain ⟨_,kw,kn⟩:=h.kin j hh q eh eq;have ok:=(h.ok q (aS eq)).1;cases hq:q.2.2 with
 | num xs=>
  rw [hq] at ec eo;refine ⟨ov o,?_,.inl ⟨λ z=>?_,rfl⟩⟩
  ·rw [ec];show (xs.map ov)[k]?=_;rw [aH,show xs[k]?=some o from eo];rfl
  ·obtain ⟨_,_,e⟩:=kw z.1;rw [hq] at e;cases e
 | wrd ws ns=>
  rw [hq] at ec eo ok;have eo:ns[k]?=some o:=eo;have hw:hh.2 = "word" := Classical.byContradiction λ z=>by
   obtain ⟨_,e⟩:=kn z;rw [hq] at e;cases e
  have hc:r.2[j]?=some (cI ws o):=by
   rw [ec];show (ns.map (cI ws))[k]?=_;rw [aH,eo];rfl
  refine ⟨_,hc,?_⟩;cases o with
  | none=>exact .inl ⟨λ z=>z.2 rfl,rfl⟩
  | some m=>
   obtain ⟨m0,m1⟩:=ok.2.1 m (aS eo);obtain ⟨n,rfl⟩:∃ n:Nat,m=n:=⟨m.toNat,by omega⟩
   have hn:n < ws.length:=by omega
   have ey:cI ws (some (n:Int)) = .str ws[n]:=by
    show V.str (ws.getD (n:Int).toNat "")=_;rw [Int.toNat_natCast,List.getD_eq_getElem?_getD,aA hn];rfl
   refine .inr ⟨ws,ws[n],ey,hw,h.wcol j a q ws ns ea eq hq,List.getElem_mem hn,?_⟩;have:ws.idxOf ws[n]=n:=by
    have hm:=List.idxOf_lt_length_of_mem (List.getElem_mem hn);exact (List.getElem_inj (h₀:=hm) (h₁:=hn) ok.2.2.2).mp (List.getElem_idxOf hm)
   rw [this];rfl
theorem PM.okcol(h:p.ok):okC p.col=true:=by
 cases p with
 | num xs=>exact h
 | wrd ws ns=>exact h.1
theorem LawAt.rowIs(h:LawAt t H S){r:Addr × List V}(er:S.rows[k]?=some r):(S.ps.map λ q=>q.2.2.cells.getD k .non)=r.2:=by
 have hl:r.2.length=S.ps.length:=by rw [(h.rows r (aS er)).2.2,h.plen]
 refine List.ext_getElem? λ j=>?_;rw [aH];cases eq:S.ps[j]? with
 | none=>
  rw [List.getElem?_eq_none (by rw [hl];exact List.getElem?_eq_none_iff.mp eq)];rfl
 | some q=>
  have hj:j < r.2.length:=by rw [hl];exact (al_gs.mp eq).1
  have e:=h.cells k j r q er eq;rw [aA hj] at e ⊢;show some (q.2.2.cells.getD k .non)=_;rw [List.getD_eq_getElem?_getD,← e];rfl
noncomputable def lu(K:W.Frag):Sp:=λ vs H Q _=>∃ (a:Addr) (ns:List Int),vs=[.ref a]/\SqL K H a (ns.map V.int)/\ns.length<=63/\∀ H',Q (.bl true) H'
theorem ze9:(["_law_column"]:List Str).Nodup:=by decide +kernel
theorem zfa:(["_law_number", "_law_words", "_law_j", "_law_rows", "_law_columns_here"]:List Str).Nodup:=by decide +kernel
theorem sc_law:aB ["_law_script", "_law_columns_here", "_law_table", "_law_rows", "_law_words", "_law_given", "_law_k", "_law_number", "_law_row_here", "_law_bad", "_law_gone", "_law_due", "_law_j", "_law_kept_here"] ["_law_script"] (ax ik):=by walk_at "sc"
noncomputable def vo(t:Ad)(H:Hp)(p l tb dr lw:Addr)(i:Nat)(σ:St)(H':Hp):Prop:=∃ (S:LS) (v6 v7 v8 v9 v10 v11 v12 v13:Option V),σ=[some (.ref p),some (.ref l),some (.ref tb),some (.ref dr),some (.ref lw),some (.int S.g),v6,v7,v8,v9,v10,v11,v12,v13]/\Same H H'/\LawAt t H' S/\(S.l=l/\S.tb=tb/\S.dr=dr/\S.lw=lw)/\S.g<=i/\(∀ b∈FP S.tb S.ll S.ps,H b=none)/\H S.dr=none/\∀ a∈S.wa,H a.1=none
theorem zgh(T:Txt K mg t)(C__law_columns:Cal P w K mg base CX0 4 "_law_columns" ["_law_script", "_law_k"] (xN K))(C__law_told:Cal P w K mg base CX0 16 "_law_told" ["_law_table", "_law_word", "_law_thing"] (xT K t))(C__law_bad_columns:Cal P w K mg base CX0 1 "_law_bad_columns" ["_law_columns_here", "_law_number"] (xK K))(C__law_mix:Cal P w K mg base CX0 3 "_law_mix" ["_law_script", "_law_k"] (lp K))(CI:fM P w K mg base (CXr P w) 14 t.aV ["self", "columns"] (q8 K t))(C__law_row:Cal P w K mg base CX0 5 "_law_row" ["_law_script", "_law_k", "_law_columns_here"] (xS K))(C__law_bad_row:Cal P w K mg base CX0 1 "_law_bad_row" ["_law_row_here", "_law_columns_here", "_law_number"] (xL K))(CN:bn P w K mg base CX0 1 t.aV "numbers" ["self"] (xV t))(C__law_kept:Cal P w K mg base CX0 1 "_law_kept" ["_law_words", "_law_value", "_law_kind"] xQ)(eL:Cal P w K mg base (CXr P w) 9 "tight" ["values"] (jM K t))(F:Fun K "law" "law" ik f fd):FnOk P w K mg base CX0 17 f fd ["_law_script"] (lu K):=by
 obtain ⟨zbG,zbO,mm,nL,mK⟩:=CI;obtain ⟨zkO,zk6,zW,zei,zaB⟩:=CN;refine F.ok sc_law (λ vs H Q E h=>?_) (λ cdv A outer s H vs Q E hr h=>?_)
 ·obtain ⟨a,ns,rfl,_⟩:=h;rfl
 ·obtain ⟨p,ns,rfl,hS,hl,q⟩:=h;have hu:=jo hr;refine ⟨_,(zhD 6 (ao (aI (i:=1) sc_law.nd rfl (Or.inr rfl) (C__law_columns.pe hr az (aa (pv 0) (aa aq ae))))
  (ao (a8 (aQ dY (C__law_told.pe hr az (aa bx (aa aD (aa (C__law_bad_columns.pe hr az (aa (pv 1) (aa (C__law_mix.pe hr az (aa (pv 0) (aa aq ae))) ae))) ae)))) aD (aP _)) (am (aC eF))
   bq)
  (ao (aI (i:=2) sc_law.nd rfl (Or.inl rfl) (jy nL mm (hr.mono (by decide)) rfl T.uW mK .nil cx (aa (iV (tZ K) (by rfl) T.ju PyProof.Rows.Boot.«list» (aa (pv 1) ae)) ae)))
  (ao (aI (i:=3) sc_law.nd rfl (Or.inr rfl) jx)
  (ao (aI (i:=4) sc_law.nd rfl (Or.inr rfl) (cL (N:=["_law_column"]) (fr:=[none]) ⟨rfl,rfl,rfl,rfl,rfl,rfl⟩ rfl (cH (pv 1))
    (λ C fp s H=>⟨aU (i:=0) ze9 rfl (Or.inl rfl),bZ,(bD ae)⟩)))
  (am (aI (i:=5) sc_law.nd rfl (Or.inl rfl) aq)))))))
  (ao (dO PassesOwn.never rfl (eG (by rfl) T.dA (aa (au cE (C__law_mix.pe hr az (aa (pv 0) (aa aq ae))) aq) ae)) (aU (i:=6) sc_law.nd rfl (Or.inl rfl))
   (ao (aI (i:=7) sc_law.nd rfl (Or.inl rfl) (C__law_mix.pe hr az (aa (pv 0) (aa (au bv aq (pv 6)) ae))))
  (ao (aI (i:=8) sc_law.nd rfl (Or.inl rfl) (C__law_row.pe hr az (aa (pv 0) (aa (au bv aq (au e7 aq (pv 6))) (aa (pv 1) ae)))))
  (ao (aI (i:=9) sc_law.nd rfl (Or.inl rfl) (C__law_bad_row.pe hr az (aa (pv 8) (aa (pv 1) (aa (au fE (pv 7) aq) ae)))))
  (k8 (a8 (PW.pt (jB (aQ c6 (au cE (pv 7) aq) aq (aP _)) (jC (aQ dY (C__law_told.pe hr az (aa (pv 2) (aa aD (aa (pv 9) ae)))) aD (aP _))))) (am (aC eF))
   bq)
  (k8 (a8 (aQ (wp K) (au cE (pv 7) aq) (gh (aa aq (aa aq ae))) (by rfl)) (ao (aI (i:=10) sc_law.nd rfl (Or.inl rfl) (au cF (au cE (au fE (pv 7) aq) (au bv (pv 5) aq)) aq))
  (ao (aI (i:=11) sc_law.nd rfl (Or.inl rfl) (dB (wM (zhg hu (pv 10) (pv 3))) bx aD))
  (ao (bP (zhn (pv 3) (pv 10) bx ⟨rfl,rfl,rfl,rfl⟩))
  (am (a8 (aQ dY (C__law_told.pe hr az (aa (pv 2) (aa aD (aa (pv 10) ae)))) (pv 11) (aP _)) (am (aC eF))
   bq)))))
   (am (a8 (aQ gB (au cE (pv 7) aq) aq (aP _)) (ao (a8 (aQ dY (C__law_told.pe hr az (aa (pv 2) (aa aD (aa (pv 8) ae)))) (pv 5) (aP _)) (am (aC eF))
   bq)
  (ao (oK hu (pv 3) (pv 5) (pv 8) rfl)
  (ao (aI (i:=5) sc_law.nd rfl (Or.inl rfl) (au bv (pv 5) aq))
  (am (dO PassesOwn.never rfl (eG (by rfl) T.dA (aa (aR (cJ K) (by rfl) T.bH PyProof.Rows.Boot.«len» (aa (pv 1) ae)) ae)) (aU (i:=12) sc_law.nd rfl (Or.inr rfl))
   (am (a8 (PW.pt (jB (aQ kR (bj (bG K) (pv 8) (pv 12) (λ _ _=>rfl)) bx (aP _)) (jC (aQ (wv K) (bj (bG K) (pv 8) (pv 12) (λ _ _=>rfl)) (bj (bG K) (pv 4) (pv 12) (λ _ _=>rfl)) (by rfl))))) (am (bP (bW K PySem.F.plainAttrs_list PySem.F.slot_list_append PySem.F.type_list_append f9 (bj (bG K) (pv 4) (pv 12) (λ _ _=>rfl)) (aa (bj (bG K) (pv 8) (pv 12) (λ _ _=>rfl)) ae))))
   bq)))))))
   bq)))
  (k8 (a8 (aQ (wt K hu) (c8 (pv 2) T.bM zei zW (hr.mono (by decide)) zaB .nil az) (aR (ua rfl) (by rfl) T.we PyProof.Rows.Boot.«sorted» (aa (pv 3) ae)) (aP _)) (am (aC eF))
   bq)
  (ao (dO PassesOwn.never rfl (wC (by rfl) T.dA (aa (dZ d5 aq) (aa (au bv (pv 5) aq) ae))) (aU (i:=7) sc_law.nd rfl (Or.inl rfl))
   (am (a8 (aQ (OpR.alt (wt K hu) dY) (C__law_told.pe hr az (aa (pv 2) (aa aD (aa (pv 7) ae)))) (zhm hu (pv 3) (pv 7) aD ⟨rfl,rfl,rfl,rfl⟩) (aP _)) (am (aC eF))
   bq)))
  (am (dO PassesOwn.never rfl (eG (by rfl) T.dA (aa (aR (cJ K) (by rfl) T.bH PyProof.Rows.Boot.«len» (aa (pv 1) ae)) ae)) (aU (i:=12) sc_law.nd rfl (Or.inr rfl))
   (ao (iZ (i:=13) sc_law.nd rfl (Or.inl rfl) (N:=["_law_number", "_law_words", "_law_j", "_law_rows", "_law_columns_here"]) (fr:=[none,some 4,some 12,some 3,some 1]) ⟨rfl,rfl,rfl,rfl,rfl,rfl⟩ rfl (cH (aR (ua rfl) (by rfl) T.we PyProof.Rows.Boot.«sorted» (aa (pv 3) ae)))
    (λ C fp s H=>⟨aU (i:=0) zfa rfl (Or.inl rfl),bZ,(C__law_kept.pe hr az (aa (bj (bG K) (pv 1) (pv 2) (λ _ _=>rfl)) (aa (bj (bG K) (oE hu (pv 3) (pv 0) (λ _ _=>rfl)) (pv 2) (λ _ _=>rfl)) (aa (bj (fY K) (bj (bG K) (pv 4) (pv 2) (λ _ _=>rfl)) aq (λ _ _=>rfl)) ae))))⟩))
  (am (a8 (aQ dY (C__law_told.pe hr az (aa (pv 2) (aa aD (aa (bj (fY K) (bj (bG K) (pv 1) (pv 12) (λ _ _=>rfl)) aq (λ _ _=>rfl)) ae)))) (eL.pe hr cx (aa (pv 13) ae)) (aP _)) (am (aC eF))
   bq)))))))))))))
  (am (aC (iW c6 (C__law_told.pe hr az (aa (pv 2) (aa aD (aa aD ae)))) aD (aP _)))))),?_⟩
  refine ⟨λ σ H'=>∃ l tb dr lw,vo t H p l tb dr lw 0 σ H',?_,?_⟩
  ·refine ⟨_,rfl,p,ns,0,rfl,hS,λ l as hs H1 s1 hl1 h1 hA L=>?_⟩;refine ⟨_,rfl,_,rfl,p,ns,_,rfl,s1.seq hS,l,as,hs,_,rfl,h1,hA,L,λ lb H2 s2 B2=>⟨_,_, "table", rfl,.inr (.inr (.inr (.inr ⟨rfl,lb,rfl,B2,λ H3 s3=>⟨rfl,_,rfl,?_⟩⟩)))⟩⟩;rw [dE];refine ay ?_;have t3:=(s1.trans s2).trans s3;have h3:=(s2.trans s3) _ _ h1;have hA3:=hA.same (s2.trans s3);have L100:hs.length<=100:=Nat.le_trans L.2.1 (by decide);have hasc:∀ h∈hs,asc h.1/\h.1.length<=1000:=λ h hm=>v0 _ (L.mem hm).1
   -- the table
   refine ⟨_,rfl,l,_,rfl,.inl (SqL.of h3),λ lc hlc tb dx htb hdx ndx=>?_⟩;have s4:Same H3 (upd H3 lc (.lst (as.map V.ref))):=Same.new hlc;have h4c:(upd H3 lc (.lst (as.map V.ref))) lc=some (.lst (as.map V.ref)):=ah;have h4:=s4 _ _ h3;have hA4:=hA3.same s4;generalize upd H3 lc (.lst (as.map V.ref))=H4 at s4 h4c h4 hA4 htb hdx;have s5:Same H4 (upd (upd H4 dx (.own tb)) tb (.ins t.aV dx [])):=aM (Same.new hdx) (by rw [ag (Ne.symm ndx)];exact htb);have h5t:(upd (upd H4 dx (.own tb)) tb (.ins t.aV dx [])) tb=some (.ins t.aV dx []):=ah;generalize upd (upd H4 dx (.own tb)) tb (.ins t.aV dx [])=H5 at s5 h5t;refine ⟨tb,dx,lc,as,hs,rfl,h5t,s5 _ _ h4c,hA4.same s5,L100,hasc,λ z=>(by rw [L.good] at z;cases z),λ _ H6 pd ll o ps TA hps hfr hll hpd nlp k6=>⟨rfl,?_⟩⟩;have s46:Same H4 H6:=λ b z e=>k6 b z (λ y=>by rw [y,htb] at e;cases e) (s5 _ _ e);have t6:=(t3.trans s4).trans s46;have FPsome:∀ b∈FP tb ll ps,H6 b≠none:=λ b hb z=>by
    unfold FP at hb;rcases al_mc.mp hb with y | hb
    ·obtain ⟨dx6,e⟩:=TA.tab;rw [y,e] at z;cases z
    rcases al_mc.mp hb with y | hb
    ·rw [y,TA.liv] at z;cases z
    obtain ⟨fp,hfp,hb⟩:=List.mem_flatten.mp hb;obtain ⟨q',hq',rfl⟩:=List.mem_map.mp hfp;rcases PM.kind (TA.par.1 q' hq') hb with ⟨_,_,_,e,_⟩ | ⟨_,e⟩ <;> rw [e] at z <;> cases z
   have FPnew:∀ b∈FP tb ll ps,H4 b=none:=λ b hb=>by
    have n5:∀ {b},H5 b=none->H4 b=none:=λ {b} h=>s5.free h;unfold FP at hb;rcases al_mc.mp hb with y | hb
    ·rw [y];exact htb
    rcases al_mc.mp hb with y | hb
    ·rw [y];exact n5 hll
    obtain ⟨fp,hfp,hb⟩:=List.mem_flatten.mp hb;obtain ⟨q',hq',rfl⟩:=List.mem_map.mp hfp;exact n5 (hfr q' hq' b hb).1
   have h6:=s46 _ _ h4;have hA6:=hA4.same s46
   -- rows,words
   intro dr hdr;have s7:Same H6 (upd H6 dr (.dK [])):=Same.new hdr;have h7d:(upd H6 dr (.dK [])) dr=some (.dK []):=ah;show cR _ _ _ (upd H6 dr (.dK [])) _;generalize upd H6 dr (.dK [])=H7 at s7 h7d;have h7:=s7 _ _ h6;have el:(as.map V.ref).length=hs.length:=by rw [aj];exact hA.1
   refine ⟨_,rfl,l,rfl,⟨_,SqL.of h7⟩,⟨de (xs:=as.map V.ref) (λ i acc H'=>Same H7 H'/\∃ was:List Addr,acc=was.map V.ref/\was.length=i/\was.Nodup/\∀ a∈was,H' a=some (.lst [])/\H7 a=none) ⟨Same.refl _,[],rfl,rfl,List.nodup_nil,λ a ha=>(by cases ha)⟩ ?_ ?_ ?_ ?_⟩⟩
   ·rintro i acc H' hi ⟨s8,was,rfl,hw,_⟩;exact ⟨SqL.of (s8 _ _ h7),by rw [aj];omega⟩
   ·rw [el];exact Nat.le_of_lt (br (by omega))
   ·rintro i x acc H8 hx hlt ⟨s8,was,rfl,hw,hnd,hwa⟩;refine ⟨Wk.set rfl,tT ⟨bf rfl,λ a ha=>cw hlt ⟨aM s8 ha,was++[a],by rw [aJ];rfl,by rw [aO,hw];rfl,?_,λ b hb=>?_⟩⟩⟩
    ·refine List.nodup_append.mpr ⟨hnd,by simp,λ b hb c hc e=>?_⟩;rw [e,al_mi.mp hc] at hb;have:=(hwa a hb).1;rw [ha] at this;cases this
    ·rcases al_mp.mp hb with h | h
     ·exact ⟨by rw [ag (aF (hwa b h).1 ha)];exact (hwa b h).1,(hwa b h).2⟩
     ·rw [al_mi.mp h];exact ⟨ah,s8.free ha⟩
   rintro acc H8 ⟨s8,was,rfl,hw,hnd,hwa⟩ lw hlw;rw [el] at hw;have s9:Same H8 (upd H8 lw (.lst (was.map V.ref))):=Same.new hlw;have h9w:(upd H8 lw (.lst (was.map V.ref))) lw=some (.lst (was.map V.ref)):=ah;show cR _ _ _ (upd H8 lw (.lst (was.map V.ref))) _;generalize upd H8 lw (.lst (was.map V.ref))=H9 at s9 h9w;have s69:=(s7.trans s8).trans s9;have t9:=t6.trans s69;have kinq:∀ (i:Nat) (h:Hd2) (q:bb),hs[i]?=some h->ps[i]?=some q->q.2.2=dJ h:=λ i h q' e1 e2=>by
    have:=congrArg (λ l:List PM=>l[i]?) hps;rw [aH,aH,e1,e2] at this;exact Option.some.inj this
   have hpl:ps.length=hs.length:=by
    have:=congrArg List.length hps
    rwa [aj,aj] at this
   have L0:LawAt t H9 ⟨l,tb,dr,lw,pd,ll,o,as,hs,ps,[],0,[],was.map λ a=>(a,[])⟩:=by
    refine ⟨s69 _ _ h6,hA6.same s69,L,TA.same s69,λ i h q' e1 e2=>?_,λ q' hq'=>?_,List.Pairwise.nil,λ n hn=>(by cases hn),Nat.le_refl _,(s8.trans s9) _ _ h7d,rfl,λ r hr=>(by cases hr),λ i j r q' e=>(by cases e),?_,by rw [aj];exact hw,λ a ha=>?_,λ j a q' ws ns' e1 e2 e3=>?_,λ b hb hb2=>?_,?_⟩
    ·rw [kinq i h q' e1 e2];refine ⟨zfm h,λ z=>?_,λ z=>?_⟩
     ·unfold dJ;rw [if_pos z];exact ⟨_,_,rfl⟩
     ·unfold dJ;rw [if_neg z];exact ⟨_,rfl⟩
    ·obtain ⟨i,hi⟩:=List.getElem?_of_mem hq';have hl':i < hs.length:=by rw [← hpl];exact (al_gs.mp hi).1
     rw [kinq i _ q' (aA hl') hi];unfold dJ
     split
     ·exact ⟨⟨rfl,λ i h=>(by cases h),Nat.le_refl _,List.nodup_nil⟩,rfl⟩
     ·exact ⟨rfl,rfl⟩
    ·rw [List.map_map];exact h9w
    ·obtain ⟨a',ha',rfl⟩:=List.mem_map.mp ha;exact ⟨s9 _ _ (hwa a' ha').1,rfl,Nat.zero_le _⟩
    ·rw [aH] at e1;have hl':j < hs.length:=by rw [← hpl];exact (al_gs.mp e2).1
     rw [kinq j _ q' (aA hl') e2] at e3;unfold dJ at e3
     split at e3
     ·cases e3;cases hj:was[j]? with
      | none=>rw [hj] at e1;cases e1
      | some y=>rw [hj] at e1;cases e1;rfl
     ·cases e3
    ·have hn:=FPnew b hb2;have hs6:=FPsome b hb2;unfold LS.own at hb;simp only [al_mc,al_mp,List.map_nil,List.not_mem_nil,false_or,List.map_map] at hb;rcases hb with y | y | y | y | y
     ·rw [y,h4] at hn;cases hn
     ·exact hs6 (by rw [y];exact hdr)
     ·exact hs6 ((s7.trans s8).free (by rw [y];exact hlw))
     ·obtain ⟨i,hi⟩:=List.getElem?_of_mem y;have hl':i < hs.length:=by rw [← hA.1];exact (al_gs.mp hi).1
      rw [hA4.2 i b _ hi (aA hl')] at hn;cases hn
     ·obtain ⟨a',ha',e⟩:=List.mem_map.mp y;exact hs6 (s7.free (by rw [← e];exact (hwa a' ha').2))
    ·have n1:l≠lw:=aF (s8 _ _ h7) hlw;simp only [List.map_nil,List.nil_append,List.map_map];have em:was.map (Prod.fst ∘ λ a=>(a,([]:List V)))=was:=by rw [show (Prod.fst ∘ λ a:Addr=>(a,([]:List V)))=id from rfl,List.map_id]
     rw [em];refine List.nodup_cons.mpr ⟨λ hm=>?_,List.nodup_cons.mpr ⟨λ hm=>?_,hnd⟩⟩
     ·rcases al_mc.mp hm with y | y
      ·exact n1 y
      ·have:=(hwa l y).2;rw [h7] at this;cases this
     ·have:=(hwa lw hm).1;rw [hlw] at this;cases this
   -- the turns
   have FPH:∀ b∈FP tb ll ps,H b=none:=λ b hb=>(t3.trans s4).free (FPnew b hb);have hdrH:H dr=none:=t6.free hdr;have hwaH:∀ a∈was,H a=none:=λ a ha=>(t6.trans s7).free (hwa a ha).2;exact ⟨l,tb,dr,lw,⟨⟨l,tb,dr,lw,pd,ll,o,as,hs,ps,[],0,[],was.map λ a=>(a,[])⟩,none,none,none,none,none,none,none,none,rfl,t9,L0,⟨rfl,rfl,rfl,rfl⟩,Nat.le_refl _,FPH,hdrH,λ a ha=>(by obtain ⟨a',ha',rfl⟩:=List.mem_map.mp ha;exact hwaH a' ha')⟩⟩
  rintro σ9 H9 ⟨l,tb,dr,lw,I0⟩;have I1:=I0;obtain ⟨S0,v6,v7,v8,v9,v10,v11,v12,v13,rfl,t9,_⟩:=I0;have m0:=Int.emod_nonneg (mix ns 7) (b:=8) (by decide);have m1:=Int.emod_lt_of_pos (mix ns 7) (b:=8) (by decide);refine ⟨_,rfl,p,ns,_,rfl,t9.seq hS,_,_,rfl,rfl,by show (0:Int) < 8;decide,_,rfl,by show -2 ^ 62<=mix ns 7 % 8;omega,by show mix ns 7 % 8 < 2 ^ 62;omega,?_⟩;obtain ⟨N,hN,hN8⟩:∃ N:Nat,mix ns 7 % 8=N/\N < 8:=⟨(mix ns 7 % 8).toNat,by omega,by omega⟩
  dsimp only;rw [hN,Int.toNat_natCast];refine ⟨gw (vo t H p l tb dr lw) I1 ?_ ?_⟩
  ·rintro i σ H10 hi ⟨S,v6,v7,v8,v9,v10,v11,v12,v13,rfl,sH,LA,⟨rfl,rfl,rfl,rfl⟩,hg,fH,dH,wH⟩;have g8:S.g<=8:=by omega
   refine qU λ N1 hN1=>?_;refine ⟨_,rfl,_,rfl,_,_,rfl,rfl,p,ns,_,rfl,sH.seq hS,?_⟩;refine hN1 _ _ ?_;generalize mix ns (8+(0+(i:Int)))=num;refine qU λ N2 hN2=>?_;refine ⟨_,rfl,_,rfl,_,_,rfl,rfl,.inl ⟨by decide,by decide⟩,_,_,rfl,rfl,_,rfl,p,S.l,ns,_,S.as,S.hs,rfl,sH.seq hS,LA.cols,LA.heads,LA.lh.2.1,λ lr xs H11 s11 hlr h11 RF=>?_⟩;refine hN2 _ _ ?_;have LB:=LA.same s11;refine qU λ N3 hN3=>?_;refine ⟨_,rfl,_,rfl,_,rfl,_,_,rfl,rfl,⟨by decide,by decide⟩,lr,S.l,xs,S.as,S.hs,_,rfl,h11,RF,LB.cols,LB.heads,LB.lh.1,LB.lh.2.1,λ lb ys H12 s12 hlb h12 oky yl BF=>?_⟩;refine hN3 _ _ ?_;have LC:=LB.same s12;have h12r:=s12 _ _ h11
   -- a bad row is refused
   refine ⟨λ σ H'=>Bx (σ=[some (.ref p),some (.ref S.l),some (.ref S.tb),some (.ref S.dr),some (.ref S.lw),some (.int S.g),some (.int (0+(i:Int))),some (.int num),some (.ref lr),some (.ref lb),v10,v11,v12,v13]/\Same H12 H'),?_,?_⟩
   ·refine ⟨_,rfl,_,_,rfl,rfl,by show (0:Int) < 8;decide,rfl,_,rfl,?_⟩;rw [dec_int];by_cases n0:num % 8=0
    ·rw [aN n0];refine aE ⟨_,rfl,_,rfl,_,_, "put", rfl,.inl ⟨rfl,S.tb,S.pd,S.ll,S.o,_,S.ps,S.living,S.g,lb,ys,rfl,LC.tab,h12,(λ z=>by rw [z,LB.tab.liv] at hlb;cases hlb),oky,by omega,by rw [LC.plen];exact Nat.le_trans LC.lh.2.1 (by decide),by have:=LC.few;omega,LC.okp g8,λ z=>?_,λ _ H13 s13=>⟨_, "row", rfl,.inl ⟨rfl,rfl⟩,λ H14 s14=>⟨rfl,_,rfl,?_⟩⟩⟩⟩
     ·rw [LC.bad BF] at z;cases z
     ·rw [dE];exact ay ⟨rfl,s13.trans s14⟩
    ·rw [aK n0];exact ay (ay ⟨rfl,Same.refl _⟩)
   rintro σ13 H13 ⟨rfl,s13⟩;have LD:=LC.same s13;have h13r:=s13 _ _ h12r;have sD:Same H H13:=((sH.trans s11).trans s12).trans s13;have hlrH:H lr=none:=sH.free hlr;refine ⟨λ σ H'=>Bx (∃ (S':LS) (w10 w11 w12:Option V),σ=[some (.ref p),some (.ref S'.l),some (.ref S'.tb),some (.ref S'.dr),some (.ref S'.lw),some (.int S'.g),some (.int (0+(i:Int))),some (.int num),some (.ref lr),some (.ref lb),w10,w11,w12,v13]/\Same H H'/\LawAt t H' S'/\(S'.l=S.l/\S'.tb=S.tb/\S'.dr=S.dr/\S'.lw=S.lw)/\S'.g<=i+1/\(∀ b∈FP S'.tb S'.ll S'.ps,H b=none)/\H S'.dr=none/\∀ a∈S'.wa,H a.1=none),?_,?_⟩
   ·refine ⟨_,rfl,_,_,rfl,rfl,by show (0:Int) < 8;decide,bf rfl,λ pt hpt=>⟨pt,_,rfl,.inr (SqT.of ah),rfl,rfl,_,rfl,?_⟩⟩;have s14:Same H13 (upd H13 pt (.tup [.int 1,.int 2])):=Same.new hpt;show if (inV (.int (num % 8)) [.int 1,.int 2])=true then _ else _
    generalize inV (.int (num % 8)) [.int 1,.int 2]=b12;generalize upd H13 pt (.tup [.int 1,.int 2])=H14 at s14;have LE:=LD.same s14;have hE:=sD.trans s14;have h14r:=s14 _ _ h13r;obtain ⟨dne,dnF,wne⟩:=LE.drpd;cases b12 with
    | true=>
     refine aE ⟨_,rfl,_,_,rfl,rfl,⟨by decide,by decide⟩,_,rfl,_,_,rfl,rfl,_,_,rfl,rfl,by show (0:Int) < (S.g:Int)+2;omega,_,_,rfl,rfl,?_⟩;dsimp only;generalize num / 8 % ((S.g:Int)+2) - 1=gone;refine ⟨_,rfl,_,rfl,S.dr,_,rfl,DGet.k (k:=.inl (some gone)) LE.dic,_,rfl,?_⟩;by_cases hm:gone∈S.living
     ·obtain ⟨r,er,ev⟩:=LE.rowAt hm;rw [ev];refine aE ⟨_,rfl,S.dr,rfl,.inl ⟨_,.inl LE.dic⟩,_,rfl,_,.inl (some gone),LE.dic,rfl,λ v e=>?_,λ e=>?_⟩
      ·rw [w6 LE.ris LE.rlen (nD hm)];have TB:TabAt t (upd H14 S.dr (.dK (b8 (S.living.eraseIdx (S.living.idxOf gone)) (S.rows.eraseIdx (S.living.idxOf gone))))) S.tb S.pd S.ll S.o (S.hs.map (·.1)) S.ps S.living S.g:=LE.tab.kept (L:=[S.dr]) (KpL.put (al_mi.mpr rfl)) λ b hb=>by
        rw [al_mi.mp hb];exact ⟨dnF,dne⟩
       refine ⟨_,rfl,_,rfl,_,_, "drop", rfl,.inr (.inl ⟨rfl,S.tb,S.pd,S.ll,S.o,_,S.ps,S.living,S.g,gone,rfl,TB,by rw [LE.plen];exact Nat.le_trans LE.lh.2.1 (by decide),by have:=LE.few;omega,LE.okp g8,λ z=>absurd hm z,λ _ H15 k15 T15=>⟨_,rfl,rfl,_,rfl,ay ?_⟩⟩)⟩;have LF:=LE.drop (nD hm) k15 T15;refine ⟨S.dropped (S.living.idxOf gone),_,_,_,rfl,?_,LF,⟨rfl,rfl,rfl,rfl⟩,Nat.le_succ_of_le hg,?_,dH,wH⟩
       ·exact KpL.sameOf (λ b o e=>by rw [ag (λ z=>by rw [z,dH] at e;cases e)];exact hE b o e) k15 fH
       ·intro b hb;refine fH b ?_;have hb:b∈FP S.tb S.ll (bT _ _ _):=hb
        rwa [iG] at hb
      ·rw [ev] at e;cases e
     ·rw [i3 hm];refine ay ⟨_,rfl,S.dr,rfl,.inl ⟨_,.inl LE.dic⟩,_,rfl,_,.inl (some gone),LE.dic,rfl,λ v e=>?_,λ e=>?_⟩
      ·rw [i3 hm] at e;cases e
      ·refine ⟨_,rfl,_,rfl,_,_, "drop", rfl,.inr (.inl ⟨rfl,S.tb,S.pd,S.ll,S.o,_,S.ps,S.living,S.g,gone,rfl,LE.tab,by rw [LE.plen];exact Nat.le_trans LE.lh.2.1 (by decide),by have:=LE.few;omega,LE.okp g8,λ _=>⟨_, "norow", rfl,.inr (.inr (.inr ⟨rfl,rfl⟩)),λ H15 s15=>⟨_,rfl,rfl,_,rfl,?_⟩⟩,λ z=>absurd z hm⟩)⟩;rw [dE];exact ay ⟨S,_,_,_,rfl,hE.trans s15,LE.same s15,⟨rfl,rfl,rfl,rfl⟩,Nat.le_succ_of_le hg,fH,dH,wH⟩
    | false=>
     refine ay ⟨_,rfl,_,_,rfl,rfl,by show (0:Int) < 8;decide,_,_,rfl,rfl,_,rfl,?_⟩;by_cases n2:2 < num % 8
     ·rw [aN n2];obtain ⟨hlo,hlF⟩:=LA.fresh hlr;have l3:=LE.lh.2.1;refine aE ⟨_,rfl,_,rfl,_,_, "put", rfl,.inl ⟨rfl,S.tb,S.pd,S.ll,S.o,_,S.ps,S.living,S.g,lr,xs,rfl,LE.tab,h14r,(λ z=>hlF (by rw [z];unfold FP;simp)),RF.2.1,by rw [RF.1];omega,by rw [LE.plen];omega,by have:=LE.few;omega,LE.okp g8,λ _ H15 k15 T15=>⟨_,rfl,rfl,_,rfl,?_⟩,λ z=>(by rw [LE.good RF] at z;cases z)⟩⟩;have e0:(!decide (V.int (S.g:Int)=V.int (S.g:Int)))=false:=by rw [aN rfl];rfl
      rw [e0];obtain ⟨c15,_,d15,r15,w15,a15⟩:=LE.keep k15;have hgn:(S.g:Int)∉S.living:=λ z=>by have:=LE.bel _ z;omega
      refine ay ⟨_,rfl,_,rfl,_,rfl,S.dr,_,rfl,.inl ⟨_,.inl (some (S.g:Int)),d15,rfl,?_,rfl⟩,?_⟩
      ·have:(b8 S.living S.rows).length<=S.living.length:=by
        unfold b8;rw [aj,List.length_zip];omega
       have:=LE.few;exact br (by omega)
      rw [k9 _ (i3 hgn)];generalize e16:upd H15 S.dr (.dK (b8 S.living S.rows++[(.inl (some (S.g:Int)),.ref lr)]))=H16;have lne:∀ {b:Addr} {ys:List V},H15 b=some (.lst ys)->H16 b=some (.lst ys):=λ {b ys} e=>by
       rw [← e16,ag (λ z=>by rw [z,d15] at e;cases e)];exact e
      have c16:=lne c15;have w16:=lne w15;have r16:H16 lr=some (.lst xs):=lne (k15 _ _ hlF h14r);have nd1:=List.nodup_cons.mp LE.nd;have nd2:=List.nodup_cons.mp nd1.2;have nd3:=List.nodup_append.mp nd2.2;have lwn:S.lw∉S.wa.map (·.1):=λ z=>nd2.1 (List.mem_append_right _ z);have lrn:lr∉S.wa.map (·.1):=λ z=>hlo (by unfold LS.own;simp only [al_mc,al_mp];exact .inr (.inr (.inr (.inr (.inr z)))));have al:(S.as.map V.ref).length=S.hs.length:=by rw [aj,LE.heads.1]
      refine ⟨_,rfl,_,_,rfl,rfl,_,rfl,S.l,_,rfl,.inl (SqL.of c16),_,rfl,by rw [al];omega,by rw [al];omega,?_⟩;rw [al,Int.toNat_natCast];refine ⟨gw (λ j σ H'=>∃ (u12:Option V) (wb:List (Addr × List V)),σ=[some (.ref p),some (.ref S.l),some (.ref S.tb),some (.ref S.dr),some (.ref S.lw),some (.int ((S.g:Int)+1)),some (.int (0+(i:Int))),some (.int num),some (.ref lr),some (.ref lb),v10,v11,u12,v13]/\WAt H16 S.wa xs H' j wb) ⟨v12,S.wa,rfl,KpL.of (Same.refl _),rfl,λ a ha=>lne (a15 a ha),λ m a x e1 e2=>e1⟩ ?_ ?_⟩
      ·rintro j σ H17 hj ⟨u12,wb,rfl,W⟩;have ea:S.wa[j]?=some (S.wa[j]'(by rw [LE.wlen];exact hj)):=aA _;have ex:xs[j]?=some (xs[j]'(by rw [RF.1];exact hj)):=aA _;generalize S.wa[j]'(by rw [LE.wlen];exact hj)=a at ea;generalize xs[j]'(by rw [RF.1];exact hj)=x at ex;have wj:wb[j]?=some a:=by
        have:=W.eq j a x ea ex
        rwa [if_neg (Nat.lt_irrefl _)] at this
       have hz:(0+(j:Int)).toNat=j:=by omega
       have ix:atI xs (0+(j:Int))=some x:=fm (by omega) (by rw [hz];exact ex);have iw:atI (S.wa.map λ a=>V.ref a.1) (0+(j:Int))=some (.ref a.1):=fm (by omega) (by rw [hz,aH,ea];rfl);have r17:=W.kp _ _ lrn r16;have w17:=W.kp _ _ lwn w16;have a17:=W.at' a (aS wj);have okx:=RF.2.1 x (aS ex);obtain ⟨_,fla,lna⟩:=LE.wrd a (aS ea);refine ⟨_,rfl,_,rfl,lr,xs,_,x,rfl,rfl,SqL.of r17,ix,rfl,_,rfl,?_⟩;by_cases hx:x = .non
       ·have e1:(!decide (x=V.non))=false:=by rw [aN hx];rfl
        rw [e1];refine ay (ay ⟨_,_,rfl,W.step nd3.2.1 ea ex (.inl ⟨rfl,?_⟩)⟩);unfold upW;rw [if_pos (.inl hx)]
       ·have e1:(!decide (x=V.non))=true:=by rw [aK hx];rfl
        rw [e1];refine aE ⟨_,rfl,_,rfl,lr,xs,_,x,rfl,rfl,SqL.of r17,ix,_,rfl,_,rfl,S.lw,_,_,_,rfl,rfl,SqL.of w17,iw,a.1,a.2,rfl,.inl (SqL.of a17),oq okx,fla,_,rfl,?_⟩;show if (!inV x a.2)=true then _ else _
        cases hin:inV x a.2 with
        | true=>
         refine ay ⟨_,_,rfl,W.step nd3.2.1 ea ex (.inl ⟨rfl,?_⟩)⟩;unfold upW;rw [if_pos (.inr hin)]
        | false=>
         refine aE ⟨_,rfl,_,rfl,S.lw,_,_,_,rfl,rfl,SqL.of w17,iw,.inl ⟨rfl,_,SqL.of a17⟩,_,rfl,_,rfl,lr,xs,_,x,rfl,rfl,SqL.of r17,ix,a.1,a.2,x,rfl,rfl,a17,br (by omega),⟨_,_,rfl,W.step nd3.2.1 ea ex (.inr ?_)⟩⟩;unfold upW;rw [if_neg (λ y=>y.elim hx λ y=>by rw [hin] at y;cases y)]
      ·rintro σ H17 ⟨u12,wb,rfl,W⟩;have LF:=WAt.done LE g8 RF hlo hlF h14r k15 T15 e16.symm W;have hwb:∀ a∈wb,H a.1=none:=λ a ha=>by
        have:a.1∈wb.map (·.1):=List.mem_map.mpr ⟨a,ha,rfl⟩;rw [W.ad] at this;obtain ⟨a0,h0,e⟩:=List.mem_map.mp this;rw [← e];exact wH a0 h0
       refine ⟨S.added lr xs wb,_,_,_,rfl,?_,LF,⟨rfl,rfl,rfl,rfl⟩,Nat.succ_le_succ hg,?_,dH,hwb⟩
       ·have s15:=KpL.sameOf hE k15 fH;have s16:Same H H16:=λ b o e=>by rw [← e16,ag (λ z=>by rw [z,dH] at e;cases e)];exact s15 b o e
        exact KpL.sameOf s16 W.kp λ b hb=>by
         obtain ⟨a,ha,e⟩:=List.mem_map.mp hb;rw [← e];exact wH a ha
       ·intro b hb;refine fH b ?_;have hb:b∈FP S.tb S.ll (bT _ _ _):=hb
        rwa [iG] at hb
     ·rw [aK n2];exact ay ⟨S,_,_,_,rfl,hE,LE,⟨rfl,rfl,rfl,rfl⟩,Nat.le_succ_of_le hg,fH,dH,wH⟩
   ·rintro σ14 H14 ⟨S',w10,w11,w12,rfl,s14,LE,inv⟩;have g9:S'.g<=8:=by have:=inv.2.1;omega
    refine ⟨λ σ H'=>Bx (σ=[some (.ref p),some (.ref S'.l),some (.ref S'.tb),some (.ref S'.dr),some (.ref S'.lw),some (.int S'.g),some (.int (0+(i:Int))),some (.int num),some (.ref lr),some (.ref lb),w10,w11,w12,v13]/\Same H14 H'),?_,?_⟩
    ·obtain ⟨dx,ht⟩:=LE.tab.tab;refine ⟨_,rfl,S'.tb,dx,_,rfl,ht,rfl,S'.tb,S'.pd,S'.ll,S'.o,_,S'.ps,S'.living,S'.g,rfl,LE.tab,λ ln H15 s15 hln h15=>⟨_,rfl,S'.dr,S'.living,S'.rows.map (λ r:Addr × List V=>V.ref r.1),rfl,s15 _ _ LE.dic,by rw [aj];exact LE.rlen.symm,LE.ris.imp (λ h=>Int.le_of_lt h),by have:=LE.few;omega,λ ls hls=>⟨ln,ls,_,_,rfl,rfl,SqL.of ((Same.new hls) _ _ h15),SqL.of ah,jp _,jp _,_,rfl,?_⟩⟩⟩;rw [na (jp _)];exact ay ⟨rfl,aM s15 hls⟩
    ·rintro σ15 H15 ⟨rfl,s15⟩;have LF:=LE.same s15;have l3:=LF.lh.2.1;refine ⟨_,rfl,_,rfl,_,_,rfl,rfl,_,_,rfl,⟨by decide,by decide,by omega,by omega⟩,?_⟩;refine ⟨gw (λ k σ H'=>∃ v7:Option V,σ=[some (.ref p),some (.ref S'.l),some (.ref S'.tb),some (.ref S'.dr),some (.ref S'.lw),some (.int S'.g),some (.int (0+(i:Int))),v7,some (.ref lr),some (.ref lb),w10,w11,w12,v13]/\Same H15 H') ⟨_,rfl,Same.refl _⟩ ?_ ?_⟩
     ·rintro k σ H16 hk ⟨v7,rfl,s16⟩;have LG:=LF.same s16;generalize -1+(k:Int)=n;refine ⟨_,rfl,_,rfl,_,_, "row", rfl,.inr (.inr (.inl ⟨rfl,S'.tb,S'.pd,S'.ll,S'.o,_,S'.ps,S'.living,S'.g,n,rfl,LG.tab,by rw [LG.plen];omega,LG.okp g9,λ hn=>⟨_, "norow", rfl,.inr (.inr (.inr ⟨rfl,rfl⟩)),λ H17 s17=>?_⟩,λ hn l H17 s17 hl h17=>?_⟩))⟩
      ·have LK:=LG.same s17;refine ⟨_,rfl,S'.dr,rfl,.inl ⟨_,.inl LK.dic⟩,_,rfl,_,DGet.k (k:=.inl (some n)) LK.dic,?_⟩;rw [i3 hn];refine .inr ⟨rfl,_,rfl,?_⟩;show if (!decide (V.str "norow" = V.str "norow"))=true then _ else _
       rw [dE];exact ay ⟨_,rfl,s16.trans s17⟩
      ·have LK:=LG.same s17;obtain ⟨r,er,ev⟩:=LK.rowAt hn;refine ⟨_,rfl,S'.dr,rfl,.inl ⟨_,.inl LK.dic⟩,_,rfl,_,DGet.k (k:=.inl (some n)) LK.dic,?_⟩;rw [ev];rw [LK.rowIs er] at h17;obtain ⟨hr,okr,_⟩:=LK.rows r (aS er);have fr:r.2.all bN=true:=List.all_eq_true.mpr λ x hx=>oq (okr x hx);refine .inl ⟨l,r.1,_,_,rfl,rfl,SqL.of h17,SqL.of hr,fr,fr,_,rfl,?_⟩;rw [na fr];exact ay ⟨_,rfl,s16.trans s17⟩
     ·rintro σ H16 ⟨v7,rfl,s16⟩;have LG:=LF.same s16;have al:(S'.as.map V.ref).length=S'.hs.length:=by rw [aj,LG.heads.1]
      refine ⟨_,rfl,S'.l,_,rfl,.inl (SqL.of LG.cols),_,rfl,by rw [al];omega,by rw [al];omega,?_⟩;rw [al,Int.toNat_natCast];refine ⟨gw (λ j σ H'=>∃ v12 v13:Option V,σ=[some (.ref p),some (.ref S'.l),some (.ref S'.tb),some (.ref S'.dr),some (.ref S'.lw),some (.int S'.g),some (.int (0+(i:Int))),v7,some (.ref lr),some (.ref lb),w10,w11,v12,v13]/\Same H16 H') ⟨_,_,rfl,Same.refl _⟩ ?_ ?_⟩
      ·rintro j σ H17 hj ⟨u12,u13,rfl,s17⟩;have LK:=LG.same s17;have eh:S'.hs[j]?=some S'.hs[j]:=aA hj;generalize S'.hs[j]=hh at eh;have eq:S'.ps[j]?=some (S'.ps[j]'(by rw [LG.plen];exact hj)):=aA _;generalize S'.ps[j]'(by rw [LG.plen];exact hj)=q' at eq;have ea:S'.wa[j]?=some (S'.wa[j]'(by rw [LG.wlen];exact hj)):=aA _;generalize S'.wa[j]'(by rw [LG.wlen];exact hj)=a at ea;have ec:S'.as[j]?=some (S'.as[j]'(by rw [LG.heads.1];exact hj)):=aA _;generalize S'.as[j]'(by rw [LG.heads.1];exact hj)=c at ec;have hz:(0+(j:Int)).toNat=j:=by omega
       have iw:atI (S'.wa.map λ a=>V.ref a.1) (0+(j:Int))=some (.ref a.1):=fm (by omega) (by rw [hz,aH,ea];rfl);have ic:atI (S'.as.map V.ref) (0+(j:Int))=some (.ref c):=fm (by omega) (by rw [hz,aH,ec];rfl);obtain ⟨okq,lq⟩:=LK.okp g9 q' (aS eq);have few:=LK.few;refine ⟨_,rfl,S'.dr,S'.living,S'.rows.map (λ r:Addr × List V=>V.ref r.1),rfl,LK.dic,by rw [aj];exact LK.rlen.symm,LK.ris.imp (λ h=>Int.le_of_lt h),by omega,λ ls hls=>⟨ls,rfl,⟨_,SqL.of ah⟩,?_⟩⟩;have s18:Same H17 (upd H17 ls (.lst (S'.living.map V.int))):=Same.new hls;have h18:(upd H17 ls (.lst (S'.living.map V.int))) ls=some (.lst (S'.living.map V.int)):=ah;generalize upd H17 ls (.lst (S'.living.map V.int))=H18 at s18 h18;refine ⟨de (xs:=S'.living.map V.int) (λ k acc H'=>H'=H18/\acc=(q'.2.2.col.take k).map ov) ⟨rfl,rfl⟩ ?_ ?_ ?_ ?_⟩
       ·rintro k acc H' hk ⟨rfl,rfl⟩;exact ⟨SqL.of h18,by rw [aj,bc];omega⟩
       ·rw [aj];exact Nat.le_of_lt (br (by omega))
       ·rintro k x acc H' hx hlt ⟨rfl,rfl⟩;have LM:=LK.same s18;rw [aj] at hlt;have en:S'.living[k]?=some S'.living[k]:=aA hlt;generalize S'.living[k]=n at en;rw [aH,en] at hx;cases hx;have er:S'.rows[k]?=some (S'.rows[k]'(by rw [LM.rlen];exact hlt)):=aA _;generalize S'.rows[k]'(by rw [LM.rlen];exact hlt)=r at er;have eo:q'.2.2.col[k]?=some (q'.2.2.col[k]'(by rw [lq];exact hlt)):=aA _;generalize q'.2.2.col[k]'(by rw [lq];exact hlt)=o at eo;have ev:=oQ LM.ris en er;obtain ⟨x,ex,kx⟩:=LM.keptAt eh eq ea er eo;have ix:atI r.2 (0+(j:Int))=some x:=fm (by omega) (by rw [hz];exact ex);have dg:DGet H' S'.dr (.int n) (some (.ref r.1)):=by rw [← ev];exact DGet.k (k:=.inl (some n)) LM.dic
        have nxt:∃ m',m' < (S'.living.map V.int).length - k/\CW (S'.living.map V.int).length (λ k acc H''=>H''=H'/\acc=(q'.2.2.col.take k).map ov) (k+1) m' ((q'.2.2.col.take k).map ov++[ov o]) H':=cw (by rw [aj];exact hlt) ⟨rfl,by rw [List.take_add_one,eo,aJ];rfl⟩;refine ⟨Wk.set rfl,tT ⟨_,rfl,_,rfl,S'.lw,_,_,_,rfl,rfl,SqL.of LM.words,iw,_,rfl,_,rfl,S'.dr,_,rfl,dg,_,rfl,r.1,_,_,x,rfl,rfl,SqL.of (LM.rows r (aS er)).1,ix,_,rfl,_,rfl,S'.l,_,_,_,rfl,rfl,SqL.of LM.cols,ic,c,_,_,_,rfl,rfl,SqT.of (LM.heads.2 j c hh ec eh),rfl,a.1,x,hh.2,rfl,?_⟩⟩;rcases kx with ⟨kx,rfl⟩ | ⟨ws,y,rfl,e2,e3,e4,e5⟩
        ·exact .inl ⟨kx,nxt⟩
        ·refine .inr ⟨ws,y,rfl,e2,by rw [← e3];exact (LM.wrd a (aS ea)).1,e4,?_⟩;rw [e5];exact nxt
       ·rintro acc H' ⟨rfl,rfl⟩ lk hlk;rw [aj,← lq,bd];have s19:Same H17 (upd H' lk (.lst (q'.2.2.col.map ov))):=aM s18 hlk;have h19:(upd H' lk (.lst (q'.2.2.col.map ov))) lk=some (.lst (q'.2.2.col.map ov)):=ah;show cR _ _ _ (upd H' lk (.lst (q'.2.2.col.map ov))) _;generalize upd H' lk (.lst (q'.2.2.col.map ov))=H19 at s19 h19;have LN:=LK.same s19;refine ⟨_,rfl,_,rfl,_,rfl,S'.l,_,_,_,rfl,rfl,SqL.of LN.cols,ic,c,_,_,_,rfl,rfl,SqT.of (LN.heads.2 j c hh ec eh),rfl,_,_, "bits", rfl,.inr (.inr (.inr (.inl ⟨rfl,S'.tb,S'.pd,S'.ll,S'.o,_,S'.ps,S'.living,S'.g,hh.1,rfl,LN.tab,LN.lh.nodup,λ m q'' e1 e2=>?_,λ z=>absurd (List.mem_map.mpr ⟨hh,aS eh,rfl⟩) z⟩)))⟩;have ej:(S'.hs.map (·.1))[j]?=some hh.1:=by rw [aH,eh];rfl
        have hm:m=j:=(List.getElem?_inj (l:=S'.hs.map (·.1)) (al_gs.mp e1).1 LN.lh.nodup).mp (by rw [e1,ej]);rw [hm,eq] at e2;cases e2;refine ⟨_,rfl,lk,q'.2.2.col,rfl,SqL.of h19,by omega,λ _ H20 s20=>⟨rfl,_,rfl,?_⟩,λ z=>(by rw [PM.okcol okq] at z;cases z)⟩;rw [dE];exact ay ⟨_,_,rfl,(s17.trans s19).trans s20⟩
      ·rintro σ H17 ⟨u12,u13,rfl,s17⟩;refine ⟨S',some (.int (0+(i:Int))),v7,some (.ref lr),some (.ref lb),w10,w11,u12,u13,?_,((s14.trans s15).trans s16).trans s17,LG.same s17,inv⟩;obtain ⟨⟨a1,a2,a3,a4⟩,_⟩:=inv;rw [a1,a2,a3,a4]
  ·rintro σ H10 ⟨S,v6,v7,v8,v9,v10,v11,v12,v13,rfl,sH,LA,⟨rfl,rfl,rfl,rfl⟩,hg,fH,dH,wH⟩;refine ⟨_,rfl,_,_, "bits", rfl,.inr (.inr (.inr (.inl ⟨rfl,S.tb,S.pd,S.ll,S.o,_,S.ps,S.living,S.g, "none", rfl,LA.tab,LA.lh.nodup,λ j q' e1 _=>absurd (aS e1) ?_,λ _=>⟨_, "column", rfl,.inr (.inr (.inl ⟨rfl,rfl⟩)),λ H11 s11=>⟨rfl,?_⟩⟩⟩)))⟩
   ·intro hm;obtain ⟨h,hh,e⟩:=List.mem_map.mp hm;exact zfq (by rw [← e];exact (LA.lh.mem hh).1)
   ·rw [dE];exact q _
theorem zdB{kn:Nat}{k0 k1 k2 k3 k4:Tok}(l:K.lookup a=some ⟨.type "tuple", none,.seq #[.str "plain" k0,.str "runs" k1,.str "book" k2,.str "base" k3,.str "steps" k4] kn,ksl⟩)(H:Hp):SqT K H a kindsV:=
 .inr ⟨_,_,kn,l,rfl,rfl,bf rfl,.cons ⟨k0,rfl⟩ (.cons ⟨k1,rfl⟩ (.cons ⟨k2,rfl⟩ (.cons ⟨k3,rfl⟩ (.cons ⟨k4,rfl⟩ .nil))))⟩
theorem zdA{d:Data}(l:K.lookup a=some ⟨.type "tuple", none,d,ksl⟩):∃ o,K.lookup a=some o/\o.cls = .type "tuple" /\ o.dict=none:=⟨_,l,rfl,rfl⟩
structure Ds (K:W.Frag) (mg:Str->Option Value) (aX aw aW bE aV:Addr):Prop where
 D0:DD K mg "needed" qt ["number"]
 D1:DD K mg "is_whole" li ["thing"]
 D2:DD K mg "is_value" jH ["value"]
 D3:DD K mg "are_values" pK ["values"]
 D4:DD K mg "is_block" p6 ["values"]
 D5:DD K mg "check_block" pQ ["values"]
 D6:DD K mg "check_kind" pT ["kind"]
 D7:DD K mg "folded" pY ["step"]
 D8:II K aw "Tally.__init__" pq ["self"]
 D9:MM K aw "add_number" "Tally.add_number" pj ["self", "number"]
 D10:MM K aw "add" "Tally.add" pi ["self", "value"]
 D11:MM K aw "book_room" "Tally.book_room" pp ["self"]
 D12:MM K aw "base_room" "Tally.base_room" pk ["self"]
 D13:MM K aw "steps_room" "Tally.steps_room" pA ["self"]
 D14:MM K aw "rooms" "Tally.rooms" pz ["self"]
 D15:MM K aw "least_room" "Tally.least_room" px ["self"]
 D16:DD K mg "tally_of" qK ["values"]
 D17:DD K mg "room" qD ["kind", "values"]
 D18:DD K mg "best_kind" pM ["values"]
 D19:DD K mg "in_bits" pZ ["number", "width"]
 D20:DD K mg "value_bits" qO ["value"]
 D21:DD K mg "plain_bits" qv ["values"]
 D22:DD K mg "runs_of" qH ["values"]
 D23:DD K mg "runs_bits" qG ["values"]
 D24:DD K mg "book_bits" pP ["values"]
 D25:DD K mg "even_bits" pX ["numbers"]
 D26:DD K mg "base_bits" pL ["values"]
 D27:DD K mg "steps_bits" qI ["values"]
 D28:DD K mg "packed" qu ["kind", "values"]
 D29:MM K aX "take" "Reader.take" o0 ["self", "width"]
 D30:MM K aX "has_more" "Reader.has_more" oY ["self"]
 D31:MM K aX "taken_since" "Reader.taken_since" o3 ["self", "place"]
 D32:II K aX "Reader.__init__" oZ ["self", "text"]
 D33:DD K mg "read_value" qC ["reader"]
 D34:DD K mg "read_plain" qz ["reader", "length"]
 D35:DD K mg "read_runs" qA ["reader", "length"]
 D36:DD K mg "read_book" qy ["reader", "length"]
 D37:DD K mg "read_base" qw ["reader", "length"]
 D38:DD K mg "unfolded" qM ["number"]
 D39:DD K mg "read_steps" qB ["reader", "length"]
 D40:DD K mg "read_block" qx ["reader"]
 D41:DD K mg "unpacked" qN ["bits"]
 D42:DD K mg "check_column" pR ["values"]
 D43:DD K mg "rooms_from" qF ["values", "begin"]
 D44:DD K mg "block_rooms" pN ["values"]
 D45:DD K mg "room_between" qE ["rooms", "begin", "end"]
 D46:DD K mg "least_prices" qp ["rooms"]
 D47:DD K mg "longest_begin" qr ["rooms", "found", "end"]
 D48:DD K mg "cuts" pW ["values"]
 D49:DD K mg "blocks_between" pO ["values", "ends"]
 D50:DD K mg "tight" qL ["values"]
 D51:DD K mg "check_row" pV ["row", "size"]
 D52:DD K mg "values_in" qP ["bits"]
 D53:II K aW "Column.__init__" oV ["self", "values"]
 D54:MM K aW "told" "Column.told" oX ["self"]
 D55:MM K aW "bits" "Column.bits" oS ["self"]
 D56:MM K aW "put" "Column.put" oW ["self", "row", "value"]
 D57:MM K aW "drop" "Column.drop" oU ["self", "row"]
 D58:DD K mg "are_small_letters" pJ ["text"]
 D59:DD K mg "is_small" p8 ["text", "most"]
 D60:DD K mg "is_written" qc ["word"]
 D61:DD K mg "is_word" p9 ["word"]
 D62:DD K mg "takes" qJ ["part", "value"]
 D63:II K bE "WordColumn.__init__" pE ["self"]
 D64:MM K bE "number_of" "WordColumn.number_of" pG ["self", "word"]
 D65:MM K bE "told" "WordColumn.told" pI ["self"]
 D66:MM K bE "bits" "WordColumn.bits" pC ["self"]
 D67:MM K bE "put" "WordColumn.put" pH ["self", "row", "word"]
 D68:MM K bE "drop" "WordColumn.drop" pD ["self", "row"]
 D69:DD K mg "is_head" p7 ["head"]
 D70:DD K mg "check_heads" pS ["heads"]
 D71:II K aV "Table.__init__" o7 ["self", "columns"]
 D72:MM K aV "part" "Table.part" o9 ["self", "name"]
 D73:MM K aV "place_of" "Table.place_of" pc ["self", "number"]
 D74:MM K aV "numbers" "Table.numbers" o8 ["self"]
 D75:MM K aV "bits" "Table.bits" o4 ["self", "name"]
 D76:MM K aV "check_put" "Table.check_put" o5 ["self", "values"]
 D77:MM K aV "put" "Table.put" pf ["self", "values"]
 D78:MM K aV "drop" "Table.drop" o6 ["self", "number"]
 D79:MM K aV "row" "Table.row" ph ["self", "number"]
 D80:DD K mg "_law_cell" qf ["_law_script", "_law_k"]
 D81:DD K mg "_law_mix" qj ["_law_script", "_law_k"]
 D82:DD K mg "_law_columns" qh ["_law_script", "_law_k"]
 D83:DD K mg "_law_cell_of" qg ["_law_script", "_law_k", "_law_kind"]
 D84:DD K mg "_law_row" qm ["_law_script", "_law_k", "_law_columns_here"]
 D85:DD K mg "_law_kept" qi ["_law_words", "_law_value", "_law_kind"]
 D86:DD K mg "_law_bad_row" qe ["_law_row_here", "_law_columns_here", "_law_number"]
 D87:DD K mg "_law_bad_columns" qd ["_law_columns_here", "_law_number"]
 D88:DD K mg "_law_refusal" qk ["_law_kept_here"]
 D89:DD K mg "_law_told" qo ["_law_table", "_law_word", "_law_thing"]
 D90:DD K mg "law" ik ["_law_script"]
theorem zad{l:W.OpenLaw}{fa:Addr}{aX aw aW bE aV fV cQ dX eV bU fU cr cp cq eS:Addr}(hfa:mg "law" = some (.ref fa))(T:Txt K mg ⟨aX,aw,aW,bE,aV,fV,cQ,dX,eV,bU,fU,cr,cp,cq,eS,0,0,0,0⟩)(D:Ds K mg aX aw aW bE aV)(rT:(∃ a es n,mg "WRITERS" = some (.ref a)/\K.lookup a=some ⟨.type "dict", none,.dict es n,#[]⟩/\W.KeysLit w.params es.toList/\(∃ f,W.nsIn K a "plain" = some (some (.ref f))/\mg "plain_bits" = some (.ref f))/\(∃ f,W.nsIn K a "runs" = some (some (.ref f))/\mg "runs_bits" = some (.ref f))/\(∃ f,W.nsIn K a "book" = some (some (.ref f))/\mg "book_bits" = some (.ref f))/\(∃ f,W.nsIn K a "base" = some (some (.ref f))/\mg "base_bits" = some (.ref f))/\(∃ f,W.nsIn K a "steps" = some (some (.ref f))/\mg "steps_bits" = some (.ref f))))(rS:(∃ a es n,mg "READERS" = some (.ref a)/\K.lookup a=some ⟨.type "dict", none,.dict es n,#[]⟩/\W.KeysLit w.params es.toList/\(∃ f,W.nsIn K a "plain" = some (some (.ref f))/\mg "read_plain" = some (.ref f))/\(∃ f,W.nsIn K a "runs" = some (some (.ref f))/\mg "read_runs" = some (.ref f))/\(∃ f,W.nsIn K a "book" = some (some (.ref f))/\mg "read_book" = some (.ref f))/\(∃ f,W.nsIn K a "base" = some (some (.ref f))/\mg "read_base" = some (.ref f))/\(∃ f,W.nsIn K a "steps" = some (some (.ref f))/\mg "read_steps" = some (.ref f))))
  : ∃ fd:FuncData,(∀ (s:Shared) (v:Value),BindsTo s fd ⟨[v],[]⟩ [("_law_script", v)])/\∀ base:Heap,K.In base->base.Ns mainGlobals mg->FnOk l.prog w K mg base CX0 17 fa fd ["_law_script"] (lu K):=by
 let t:Ad:=⟨aX,aw,aW,bE,aV,fV,cQ,dX,eV,bU,fU,cr,cp,cq,eS,0,0,0,0⟩
 have T:Txt K mg t:=T;obtain ⟨zku,zkz,_,zb5,zdG,zdE,⟨_,zeQ,zdZ⟩,⟨_,zeR,zd0⟩,⟨_,zeS,zd1⟩,⟨_,zeT,zd2⟩,⟨_,zeU,zd3⟩⟩:=rT;obtain ⟨zkt,zky,_,zb1,zdF,zdD,⟨_,zeK,zdU⟩,⟨_,zeL,zdV⟩,⟨_,zeM,zdW⟩,⟨_,zeN,zdX⟩,⟨_,zeO,zdY⟩⟩:=rS;obtain ⟨_,e,_,⟨⟨_,_,kV,dc,pm,an,cd,ct,_,rfl,l_,c_⟩,k_⟩,_⟩:=D.D90;cases hfa.symm.trans e;have F:=ni (st:=ik) l_ c_ k_;refine ⟨W.fnOf "law" "law" (dG ik) (dh ik) (ax ik) .none kV dc pm an cd ct,λ s v=>.of_eq rfl,λ base _ _=>?_⟩;have b:Bs l.prog w base:=trivial;have eK:=D.D0.cal b λ _ _=>zgt;have iC:=D.D1.cal b λ _ _=>zgd T;have lU:=D.D2.cal b λ _ _=>wo T iC;have jT:=D.D3.cal b λ _ _=>zfP T lU;have jV:=D.D4.cal b λ _ _=>zgc T jT;have sw:=D.D5.cal b λ _ _=>zfY T jV;have zf:=D.D6.cal b λ _ _=>zf0 T;have jU:=D.D7.cal b λ _ _=>zf6;have sr:=D.D8.cal b λ _ _=>zgb T;have y0:=D.D9.cal b λ _ _=>zfO T jU;have sq:=D.D10.cal b λ _ _=>zfN T y0;have y4:=D.D11.cal b λ _ _=>zfX T eK;have y3:=D.D12.cal b λ _ _=>zfR T eK;have y6:=D.D13.cal b λ _ _=>zgQ T eK;have lJ:=D.D14.cal b λ _ _=>zgK T y4 y3 y6;have sv:=D.D15.cal b λ _ _=>zgm T lJ;have sx:=D.D16.cal b λ _ _=>zgU T sr sq;have l9:=D.D17.cal b λ _ _=>zgI T sw zf sx lJ;have lM:=D.D18.cal b λ _ _=>zfS T sw sx lJ sv;have cO:=D.D19.cal b λ _ _=>zga T;have eN:=D.D20.cal b λ _ _=>zg1 T cO;have jW:=D.D21.cal b λ _ _=>zgz T eN;have md:=D.D22.cal b λ _ _=>zgN T;have zy:=D.D23.cal b λ _ _=>zgM T md eN cO;have ze:=D.D24.cal b λ _ _=>zfW T eK cO jW;have iA:=D.D25.cal b λ _ _=>zf5 T eK cO;have zd:=D.D26.cal b λ _ _=>zfQ T eN iA;have zC:=D.D27.cal b λ _ _=>zgP T jU eN iA;have lK:CalT l.prog w K mg base CX0 5 "WRITERS" ["values"] kindsS (spW K):=zki zb5 zdG zdE zeQ zeR zeS zeT zeU zdZ zd0 zd1 zd2 zd3 jW zy ze zd zC;have iD:=D.D28.cal b λ _ _=>zgw T l9 cO lK;have iy:=D.D29.cal b λ _ _=>zgR T;have yQ:=D.D30.cal b λ _ _=>zf7 T;have yS:=D.D31.cal b λ _ _=>zgS T;have yR:=D.D32.cal b λ _ _=>zfC T;have iE:=D.D33.cal b λ _ _=>zgH T iy;have jX:=D.D34.cal b λ _ _=>zgE T iE;have zw:=D.D35.cal b λ _ _=>zgF T iy iE;have zu:=D.D36.cal b λ _ _=>zgD T iy jX eK;have zt:=D.D37.cal b λ _ _=>zgB T iy;have mf:=D.D38.cal b λ _ _=>zgX;have zx:=D.D39.cal b λ _ _=>zgG T iy mf;have lI:CalT l.prog w K mg base CX0 5 "READERS" ["reader", "length"] kindsS (spR t):=zh7 zb1 zdF zdD zeK zeL zeM zeN zeO zdU zdV zdW zdX zdY jX zw zu zt zx;have l7:=D.D40.cal b λ _ _=>zgC T iy yS lI jV iD;have mh:=D.D41.cal b λ _ _=>zgY T yR yQ l7;have lP:=D.D42.cal b λ _ _=>zfZ T jT;have ma:=D.D43.cal b λ _ _=>zgL T sr sq sv;have lN:=D.D44.cal b λ _ _=>zfU T ma;have iF:=D.D45.cal b λ _ _=>zgJ;have lY:=D.D46.cal b λ _ _=>zgn T iF;have lZ:=D.D47.cal b λ _ _=>zgq T iF;have lR:=D.D48.cal b λ _ _=>zf3 T lP lN lY lZ;have lO:=D.D49.cal b λ _ _=>zfV T;have eL:=D.D50.cal b λ _ _=>zgV T lO lR iD lM;have iz:=D.D51.cal b λ _ _=>zf1 T;have mi:=D.D52.cal b λ _ _=>zg2 T mh;have sj:=D.D53.cal b λ _ _=>zfB T eL;have jS:=D.D54.cal b λ _ _=>zgW T mi;have sh:=D.D55.cal b λ _ _=>zfT T;have sk:=D.D56.cal b λ _ _=>zgA T jS iz eL;have si:=D.D57.cal b λ _ _=>zf4 T jS iz eL;have lL:=D.D58.cal b λ _ _=>zgo T;have iB:=D.D59.cal b λ _ _=>zgO T lL;have lW:=D.D60.cal b λ _ _=>zg5 T iB;have lV:=D.D61.cal b λ _ _=>zg4 T lW;have zh:=D.D1.cal b λ _ _=>zg3 T;have zg:=D.D2.cal b λ _ _=>zg0 T iC zh;have me:=D.D62.cal b λ _ _=>zgT T lV zg;have y9:=D.D63.cal b λ _ _=>zfK T sj;have za:=D.D64.cal b λ _ _=>zgu T;have zc:=D.D65.cal b λ _ _=>zfM T jS;have y7:=D.D66.cal b λ _ _=>zfI T sh;have zb:=D.D67.cal b λ _ _=>zfL T sk za;have y8:=D.D68.cal b λ _ _=>zfJ T si;have lT:=D.D69.cal b λ _ _=>zf8 T iB;have lQ:=D.D70.cal b λ _ _=>zf9 T lT;have sm:=D.D71.cal b λ _ _=>zfF T lQ y9 sj;have yX:=D.D72.cal b λ _ _=>zgx T;have so:=D.D73.cal b λ _ _=>zgy T;have yW:=D.D74.cal b λ _ _=>zgv T;have yT:=D.D75.cal b λ _ _=>zfD T yX sh y7;have yU:=D.D76.cal b λ _ _=>zf2 T me;have yY:=D.D77.cal b λ _ _=>zfG T yU sk zb;have yV:=D.D78.cal b λ _ _=>zfE T so si y8;have yZ:=D.D79.cal b λ _ _=>zfH T so jS zc;have zk:=D.D80.cal b λ _ _=>zge T;have lX:=D.D81.cal b λ _ _=>zgf T zk;have zn:=D.D82.cal b λ _ _=>zgl T lX;have zm:=D.D83.cal b λ _ _=>zgk T lX;have zq:=D.D84.cal b λ _ _=>zgr T zm;have zo:=D.D85.cal b λ _ _=>zgp T;have zj:=D.D86.cal b λ _ _=>zgj T;have zi:=D.D87.cal b λ _ _=>zgi T;have zp:=D.D88.cal b λ _ _=>zgg T;have zr:=D.D89.cal b λ _ _=>zgs T yY yV yZ yT sm zp;exact zgh T zn zr zi lX sm zq zj yW zo eL F
theorem zkc{l:W.OpenLaw}{q:Program}{loose:List Str}{XP:(Str->Option Value)->Heap->Prop}{YP:World->Heap->Prop}{d:DefRec}{K:Params->W.Frag}(hn:l.most=some 63)(hdf:d.params.defaults=[])(hY:∀ (w:World) (h:Heap),YP w h->(K w.params).In h)(F:∀ (w:World) (mg:Str->Option Value) (fa:Addr) (h:Heap),(K w.params).In h->h.Ns mainGlobals mg->mg d.name=some (.ref fa)->
   ∃ fd:FuncData,(∀ (s:Shared) (u:Value),BindsTo s fd ⟨[u],[]⟩ [("_law_script", u)])/\∀ base:Heap,(K w.params).In base->base.Ns mainGlobals mg->FnOk l.prog w (K w.params) mg base CX0 17 fa fd ["_law_script"] (lu (K w.params))):
  W.WalkO q loose XP YP l.row.toRowW d [] (λ f vs=>PySem.call f vs):=
 L2.zke (n:=63) (k:=17) (x := "_law_script") (CX:=CX0) (sp:=lu) hn (by decide) hdf ⟨rfl,by decide,by decide⟩ hY F (λ _ _ a ns hl _ hS=>⟨a,ns,rfl,hS,hl,λ _=>rfl⟩) λ _ _ _ _ z=>z
end T1
open PySem PySem.W PyProof.Rows
set_option maxHeartbeats 0
namespace PySem.W.Fast
def tw2870606657916442928:=0
def tw8561620463117519911:=0
def tw15658783078273685601:=0
def tw4437202343766469063:=0
def tw14588922433397456048:=0
def tw4944939855592629219:=0
def tw13171059195288558143:=0
def tw6891678376382727640:=0
def tw11560184794709162558:=0
def tw3744637391809630434:=0
def tw10316275749434899228:=0
def tw17792306451507966758:=0
def tw15244934945096086091:=0
def tw2966245893745986782:=0
def tw4596154336263519989:=0
def tw11488582681846531510:=0
def tw18368713326256160463:=0
def tw15269542048403974969:=0
def tw9870752487764452798:=0
def tw4485443081082142598:=0
def tw3416276506055856703:=0
def tw5229223393565736022:=0
def tw1910063991659699160:=0
def tw14717756682564823951:=0
def tw2382992275887692760:=0
def tw173655755971940763:=0
def tw3441181484239191453:=0
def tw1510200132203093344:=0
def tw17804137797910129976:=0
def tw16912993558457738087:=0
def tw8010429739221350655:=0
def tw13512494431348122344:=0
def tw221459796718592479:=0
def tw18180450553987571463:=0
def tw1498911897619886491:=0
def tw4029100840319817195:=0
def tw2718960272676231512:=0
def tw2580756070439426241:=0
def tw16932750248981076975:=0
def tw11315832918978920498:=0
def tw6915830098602222075:=0
def tw13805876386964566051:=0
def tw18200311486174963496:=0
def tw671997056453627701:=0
def tw3170917433506981388:=0
def tw5761891094533602941:=0
def tw2179530544698372329:=0
def tw286672909443509423:=0
def tw9452942446560280524:=0
def tw11102882601449554769:=0
def tw16972357384913794669:=0
def tw11619530477501284458:=0
def tw8622511845288881301:=0
def tw12795555041046419264:=0
def tw11464542286830546394:=0
def tw4612512449502464726:=0
def tw12502445556323134865:=0
def tw17100784302562312396:=0
def tw4279031294114029233:=0
def tw5785749835991850524:=0
def tw353279137818652711:=0
def tw662487633825041949:=0
def tw1231428805752051470:=0
def tw3794673962262581298:=0
def tw13304969567683844135:=0
def tw14920106116421664357:=0
def tw2956457222204650364:=0
def tw13392989160716055246:=0
def tw14565058331254673193:=0
def tw1305488984063658161:=0
def tw11655334652289050587:=0
def tw13201590901006505230:=0
def tw9199807048112468164:=0
def tw1706668047271739993:=0
def tw2368650613007537531:=0
def tw5441011295486705847:=0
def tw17219136935623282979:=0
def tw13864761864999608740:=0
def tw13112489393974891562:=0
def tw8503006746105767871:=0
def tw240809779962320460:=0
def tw16918642582880093274:=0
def tw5344459653683495844:=0
def tw6996646363512349780:=0
def tw8843622084017130941:=0
def tw6740259294088482822:=0
def tw1208262575889395363:=0
def tw16973678617238036021:=0
def tw10419413646124371207:=0
def tw13481458337913040986:=0
def tw2102640151204726849:=0
def tw10315842190103737215:=0
def tw400308706252983736:=0
def tw14197212865736574096:=0
def tw10111816829967620940:=0
def tw10835302523878952764:=0
def tw13492517414784309373:=0
def tw14229818408795933544:=0
def tw16967676927775733217:=0
def tw11803830727687284917:=0
def tw5676158832566997192:=0
def tw16437159813392760963:=0
def tw15927537555570953868:=0
def tw7931584329624968101:=0
def tw12891870898042309210:=0
def tw591619521623480173:=0
def tw8641261243274172004:=0
def tw15151590658759971975:=0
def tw12812523130130701433:=0
def tw8137177082677651817:=0
def tw14673037961349711023:=0
def tw1863996257521021587:=0
def tw15521432821215370179:=0
def tw1730014827032318093:=0
def tw2606794750528776967:=0
def tw7122216473357894384:=0
def tw3417163676019053165:=0
def tw13252353580202293649:=0
def tw4816535666526697795:=0
def tw848319894122301810:=0
def tw9953251717546589380:=0
def tw17049490377257562395:=0
def tw13781941000764653833:=0
def tw17390546976280899908:=0
def tw17235451654336282918:=0
def tw14115612292630298329:=0
def tw13931468397397221669:=0
def tw9562348720305321141:=0
def tw10315329061316662816:=0
def tw4172150229251425597:=0
def tw14039470195028465946:=0
def tw15226153663592417464:=0
def tw5690963122746863800:=0
def tw10185791897878021676:=0
def tw3687520480371858154:=0
def tw2116705468467141311:=0
def tw352137625022990937:=0
def tw9890069310397148831:=0
def tw9071404923954904946:=0
def tw9147387543374475260:=0
def tw554491261183384867:=0
def tw7042113281908822395:=0
def tw5377395326752350224:=0
def tw73920596778585905:=0
def tw10192724254305547310:=0
def tw4484478099829424759:=0
def tw7835247077637566697:=0
def tw16841470909473829499:=0
def tw5464063524407708859:=0
def tw7318451870941531037:=0
def tw15475076116472076412:=0
def tw11949842639367756715:=0
def tw2919999854780906720:=0
def tw14667184450404836312:=0
def tw11714446256913669193:=0
def tw13423244913909445596:=0
def tw13459606278456390750:=0
def tw10622618413610721577:=0
def tw17678266531956157644:=0
def tw18223388010741149669:=0
def tw16643179803010462998:=0
def tw1830908206230394951:=0
def tw9845921835416411572:=0
def tw6113813435440603624:=0
def tw17558468112293427151:=0
def tw3680687382328057084:=0
def tw16956020058673912299:=0
def tw29342841495252606:=0
def tw10809303569395626552:=0
def tw2717667709949493714:=0
def tw12396112007762138273:=0
def tw6779623309535925911:=0
def tw1146105884227674917:=0
def tw12747287592125256408:=0
def tw7207055248932914315:=0
def tw6297439460103748329:=0
def tw3044262868708388789:=0
def tw14685759011257162827:=0
def tw6234714931038679658:=0
def tw916579946541188910:=0
def tw3251170706299921101:=0
def tw17247191448820504992:=0
def tw18366071067584206253:=0
def tw3621135559255319756:=0
def tw4517674123233821177:=0
def tw9933915225936180657:=0
def tw7703342370262253421:=0
def tw14807245280511448725:=0
def tw10854501823085113059:=0
def tw287759276949640782:=0
def tw17542690509189486825:=0
def tw10695786206435501885:=0
def tw9988316690921611170:=0
def tw1211771764367981948:=0
def tw12892184078641269113:=0
def tw12804604249971251148:=0
def tw6776374947273356065:=0
def tw4609309207603839798:=0
def tw14849254571477763173:=0
def tw1748808691809154114:=0
def tw16939395840372526821:=0
def tw15601310325441786835:=0
def tw1956447246544186980:=0
def tw4452426404830162460:=0
def tw15637066546500483524:=0
def tw13220384985441044848:=0
def tw3622651747703717806:=0
def tw8269725058638569025:=0
def tw8245013078727580144:=0
def tw17070029354638458402:=0
def tw13157358574671220019:=0
def tw1318867492284069353:=0
def tw8850625324321297912:=0
def tw8925053909952719807:=0
def tw18439477688306902764:=0
def tw12753560315091119440:=0
def tw13522922977720345347:=0
def tw7261734385749754968:=0
def tw16936669386117913070:=0
def tw2075176308104322180:=0
def tw4206241323123782879:=0
def tw1013632120382525615:=0
def tw11411255564092286103:=0
def tw6769705513128860221:=0
def tw6884399864873781254:=0
def tw16119177666811403048:=0
def tw12600851497627108889:=0
def tw5804672499253827153:=0
def tw6391717739897243213:=0
def tw5083205026690044350:=0
def tw16485247128310386419:=0
def tw2281186078294684690:=0
def tw7613062246412473328:=0
def tw13448108757416826754:=0
def tw11595233453876126720:=0
def tw12422650616926029710:=0
def tw18126970089978495002:=0
def tw8956383525110728278:=0
def tw1341269633775688249:=0
def tw8528693987252707854:=0
def tw2027147355734552674:=0
def tw834477282342894186:=0
def tw5264176639191122666:=0
def tw14740688961035114918:=0
def tw16302403090934665031:=0
def tw16616452428206558570:=0
def tw7657006200426794580:=0
def tw8864543501030042677:=0
def tw3596694679217542789:=0
def tw13949295291865641403:=0
def tw16674154562218041092:=0
def tw17185122331531784539:=0
def tw12227392339376972542:=0
def tw10047892024675364082:=0
def tw18227802397245407935:=0
def tw3817066588358749708:=0
def tw15159378192106934337:=0
def tw11812726571997257843:=0
def tw4109946528820706977:=0
def tw5896508009151102891:=0
def tw4528002563516037449:=0
def tw13114996386560476355:=0
def tw3572778898075803552:=0
def tw1604546800951385623:=0
def tw2224902754162047695:=0
def tw15227271218641104460:=0
def tw6235812772397662657:=0
def tw16964319018770451151:=0
def tw7420726384796275523:=0
def tw7606212715459731067:=0
def tw6070047876364108375:=0
def tw15215750107321853362:=0
def tw5693138940484814519:=0
def tw1864084611233545055:=0
def tw17895601660293104214:=0
def tw5904835489459128595:=0
def tw15934376743352109071:=0
def tw14549605204448269651:=0
def tw15847588954857427317:=0
def tw5977639002648386907:=0
def tw4321596380190583166:=0
def tw16555343204408761151:=0
def tw5219902850126663224:=0
def tw15895573709634716773:=0
def tw15183654298703580310:=0
def tw4967298381934979311:=0
def tw5383483660917698021:=0
def tw2552491215392600760:=0
def tw2703746112684365551:=0
def tw1311252040108331333:=0
def tw10660541725703278316:=0
def tw7383273718688807001:=0
def tw9734181911266148255:=0
def tw8454548199579164731:=0
def tw16990709013855301292:=0
def tw11727005905670615581:=0
def tw11586542666913780421:=0
def tw14153239382514197932:=0
def tw2420824607370708266:=0
def tw367866435453632683:=0
def tw5439912040338684990:=0
def tw14238680209270949854:=0
def tw16988215867578721995:=0
def tw14562643391978094307:=0
def tw9339046309433212781:=0
def tw15856220976046610725:=0
def tw13047056831220951069:=0
def tw14938588869250252517:=0
def tw17733635223943285018:=0
def tw6834977854798274986:=0
def tw7544785423774722442:=0
def tw4996525928202335354:=0
def tw9747734738704968300:=0
def tw2516120676309143928:=0
def tw2974884500323138856:=0
def tw3860776203263708313:=0
def tw17957892436416624737:=0
def tw12530826638661405753:=0
def tw10374965780884099581:=0
def tw7422696757780116098:=0
def tw12216099134908685735:=0
def tw17713708125061812287:=0
def tw12680947009161176736:=0
def tw7670927445953560420:=0
def tw16919461112605706200:=0
def tw9130168516531842566:=0
def tw16918272661886267457:=0
def tw5968278798954764426:=0
def tw14434925230865231382:=0
def tw3685379832035063862:=0
def tw17421383372887412308:=0
def tw3236473969364872084:=0
def tw9871489147303070957:=0
def tw11406108056763973571:=0
def tw11868860491005354087:=0
def tw2726897824759195719:=0
def tw350667501750275589:=0
def tw16740708683265787917:=0
def tw13478392149506266919:=0
def tw6229894234730211693:=0
def tw8606321473357037856:=0
def tw6861644675940817275:=0
def tw11806559207921876369:=0
def tw14868828354879650990:=0
def tw17545327648822006312:=0
def tw17939464856633841436:=0
def tw17378347123831767758:=0
def tw11445508280726042088:=0
def tw1767558230403387650:=0
def tw8199395580642738725:=0
def tw18075588705978027436:=0
def tw299240807854525148:=0
def tw8990565072296765122:=0
def tw9695999583051533164:=0
def tw14931435692540792041:=0
def tw17669047950913360866:=0
def tw6031609661789783420:=0
def tw11074815268912357413:=0
def tw6916379305797651004:=0
def tw15521333416134117164:=0
def tw1103546482817042808:=0
def tw10295685435169306535:=0
def tw4618962067786203129:=0
def tw2391637522939401103:=0
def tw16085631040612390421:=0
def tw15158491489857271106:=0
def tw18271451639169192085:=0
def tw10986400866849006701:=0
def tw3633665255253870609:=0
def tw3927951730769863623:=0
def tw1726883704454196283:=0
def tw15893705126259337236:=0
def tw5896253156054306730:=0
def tw16172937008932901834:=0
def tw3837350840074257164:=0
def tw5036337098622603555:=0
def tw7170965878340397250:=0
def tw1106544068838493759:=0
def tw18104389240155769932:=0
def tw5690187012347943667:=0
def tw9623468300886656184:=0
def tw9049983261099202768:=0
def tw9726328867599884474:=0
def tw10622699155197528761:=0
def tw17716708209731213412:=0
def tw4763930345756842383:=0
def tw14133389711027405901:=0
def tw2980271258511457392:=0
def tw7262106096222790656:=0
def tw8073985000109034936:=0
def tw15437930537390785990:=0
def tw4075534055035648615:=0
def tw9432288292835621651:=0
def tw8739451924666012362:=0
def tw16613709247092059674:=0
def tw7960276679971483851:=0
def tw11956006532089123697:=0
def tw5517585819318438342:=0
def tw101884722536595955:=0
def tw16945094188234701374:=0
def tw9301575379628228184:=0
def tw572381777040596222:=0
def tw13058031942327140109:=0
def tw11012188858915185121:=0
def tw1878512620441522719:=0
def tw3511838787680519647:=0
def tw8876436433979105955:=0
def tw534591559976415972:=0
def tw4456025964443670734:=0
def tw3835208135040620669:=0
def tw6302626853725160340:=0
def tw3423329211114306238:=0
def tw10160808532885311371:=0
def tw5992563732605855900:=0
def tw18197363040598576899:=0
def tw15671185428144512332:=0
def tw9774863975185998414:=0
def tw16177411549342114042:=0
def tw5550980037821255849:=0
def tw14375123853992386367:=0
def tw2915786015551083245:=0
def tw4703372063388044626:=0
def tw2016663320872201641:=0
def tw7159731447419748470:=0
def tw13337847501390842365:=0
def tw15705491243596298849:=0
def tw16229062925069492248:=0
def tw17802389676963110124:=0
def tw5779599517790788843:=0
def tw13046502179525381254:=0
def tw7344690755383695900:=0
def tw5104475729016476183:=0
def tw923862912351654113:=0
def tw18263434564766179565:=0
def tw8080540647850784022:=0
def tw8330061560534210826:=0
def tw18290100938826663639:=0
def tw14263941631790068389:=0
def tw17984620468336184325:=0
def tw750610012249065222:=0
def tw10245893395729034000:=0
def tw11029878169323222653:=0
def tw15659549457615733981:=0
def tw15125979998166909685:=0
def tw17825473462361243894:=0
def tw10038839336961602419:=0
def tw16613334908412405452:=0
def tw6009226451079406174:=0
def tw8498844721267449932:=0
def tw806949893841662317:=0
def tw9570218781351430342:=0
def tw12268420483606086989:=0
def tw6093917357581594489:=0
def tw10435698900181257539:=0
def tw14851416912809819870:=0
def tw16800855567691357440:=0
def tw11869713559029600824:=0
def tw4974321382031034302:=0
def tw18102918096586599035:=0
def tw6600054379798267642:=0
def tw7517955932133681746:=0
def tw7432077782999998010:=0
def tw13252270616281195468:=0
def tw5421474735326581869:=0
def tw7988386313439132000:=0
def tw16046464584357831864:=0
def tw3068747584154040982:=0
def tw6567558210847300780:=0
def tw11272957009212270371:=0
def tw3313028928733653075:=0
def tw4508904066362819064:=0
def tw14651948856004404795:=0
def tw12063485555874197534:=0
def tw9146535242315136324:=0
def tw13474216243664682901:=0
def tw7274440578285169364:=0
def tw14906252311277976144:=0
def tw14053406601142911200:=0
def tw6117058018560615249:=0
def tw8445871330447573594:=0
def tw2797715987962162624:=0
def tw12859821932968831206:=0
def tw10755617042564378947:=0
def tw2781056084569874082:=0
def tw12012909254268563485:=0
def tw3332533830289463402:=0
def tw12115621041102441880:=0
def tw4254164765189305117:=0
def tw13625701831481723108:=0
def tw7652450527821890188:=0
def tw9770588296027657752:=0
def tw8944711867599279934:=0
def tw13981343897175861415:=0
def tw2283079157248689652:=0
def tw11715127603488668529:=0
def tw10013087405382653409:=0
def tw5974905926662729720:=0
def tw8863292697486156756:=0
def tw13651759870369045602:=0
def tw9825664606870131445:=0
def tw15268585031771050568:=0
def tw3443682480178775183:=0
def tw12216666555345738192:=0
def tw953631999767146166:=0
def tw13757318917767175976:=0
def tw16188123542712283244:=0
def tw15110533606658401157:=0
def tw1131552030359313225:=0
def tw1934342765516085098:=0
def tw6902474974879986365:=0
def tw7956313290842483969:=0
def tw14005915229923672881:=0
def tw15905497889041215116:=0
def tw17095042675694617940:=0
def tw10655515954687302316:=0
def tw3079938076832943007:=0
def tw18114352478076919703:=0
def tw8864004726067905169:=0
def tw478203008852189134:=0
def tw14581229831016930890:=0
def tw15224876262520777644:=0
def tw8835675536420985339:=0
def tw1548226201143437457:=0
def tw15890311146629620522:=0
def tw8199247208863462921:=0
def tw14727548631776378380:=0
def tw9316257420537803842:=0
def tw3596207922894098914:=0
def tw13624340646099814081:=0
def tw4139724941342763884:=0
def tw4602508940025085076:=0
def tw2058565339175597801:=0
def tw4170840242252787265:=0
def tw612596712336294024:=0
def tw9755000875203588542:=0
def tw14371911778807456644:=0
def tw3160872539375227678:=0
def tw3181296699302036391:=0
def tw6697821658260131582:=0
def tw14964524168134258558:=0
def tw11034714316928637691:=0
def tw5841221960849292793:=0
def tw5686671797484813944:=0
def tw17421538355154750626:=0
def tw8910217197228886464:=0
def tw8294425144084828930:=0
def tw18080633023247726275:=0
def tw9061865201104431712:=0
def tw14053504151495531725:=0
def tw12652049207180945810:=0
def tw16584508040289528189:=0
def tw5618761452292580564:=0
def tw12090999305191258296:=0
def tw2155631512253720475:=0
def tw5540869160410674063:=0
def tw10989786549691176865:=0
def tw10958997403941074732:=0
def tw8334405679399290372:=0
def tw12559391663106326534:=0
def tw5437258925473781924:=0
def tw4952958759513730374:=0
def tw7309996344445220365:=0
def tw12318143182229075062:=0
def tw15755882295301066212:=0
def tw9097009292535047049:=0
def tw7343849017383343070:=0
def tw8542186475300965374:=0
def tw12508628821257368383:=0
def tw12864654458927719793:=0
def tw10210533161922905118:=0
def tw18352852314722276526:=0
def tw4712903836388680594:=0
def tw15043594756563274498:=0
def tw13071457846391158090:=0
def tw10963919122452300853:=0
def tw15409287533244459047:=0
def tw12328370661096828361:=0
def tw7810374300188828831:=0
def tw17274228011758857307:=0
def tw6262237373109155470:=0
def tw4535502644590736089:=0
def tw11487401000151752628:=0
def tw9219985948895873211:=0
def tw4538263495220994855:=0
def tw2321586773365916936:=0
def tw2280474327425726866:=0
def tw10734259191685645941:=0
def tw8821917114940400002:=0
def tw1093358395858797859:=0
def tw11607949592981760411:=0
def tw4921019074064693848:=0
def tw6612398093531063930:=0
def tw11793686717680030982:=0
def tw16845422090467004690:=0
def tw12522802064832047399:=0
def tw452652719034622071:=0
def tw3184373933693428159:=0
def tw15180295309435579987:=0
def tw18433105807372761317:=0
def tw15669568292514022827:=0
def tw3466565332207359283:=0
def tw2005478950878707105:=0
def tw1370508821152205327:=0
def tw16361090280573401213:=0
def tw3712614107735998903:=0
def tw7622837502988662559:=0
def tw1808630335779352884:=0
def tw18265779001190519341:=0
def tw15412742156205263407:=0
def tw18298330880143385132:=0
def tw7788108517750774289:=0
def tw9879778188843736180:=0
def tw5295219068271354496:=0
def tw17888833473685827465:=0
def tw15325118743222827818:=0
def tw16898939043229289363:=0
def tw10597502084916461792:=0
def tw6000875480494028010:=0
def tw17223093697912720731:=0
def tw7043168883701150683:=0
def tw3889481164690601262:=0
def tw9367158818849852125:=0
def tw2500545024027881011:=0
def tw6085395523114193466:=0
def tw15581607756959870592:=0
def tw6768699508898698262:=0
def tw831148351220986244:=0
def tw7783526574807713190:=0
def tw1465816456658834717:=0
def tw12364533422071330945:=0
def tw4802388979175011378:=0
def tw2984655927777551683:=0
end PySem.W.Fast
open_top hdk for PySem.Challenge.rw_tightrows_k30_tables_and_rows
open PySem PySem.W PyProof.Rows
set_option maxRecDepth 100000 in
set_option maxHeartbeats 0 in
theorem PySem.Challenge.cw_tightrows_k30_tables_and_rows_holds : PySem.Challenge.rw_tightrows_k30_tables_and_rows.Holds :=
 hdk (by
  k_fill
  refine T1.zkc (l:=PySem.Challenge.rw_tightrows_k30_tables_and_rows) rfl rfl (fun w h Y=>by first | exact PySem.W.kIn_of Y | exact PySem.W.km_in_of Y) ?F
  case F=>
    intro w mg fa h KX G hmg;refine' T1.zad hmg ?T ?D ?rT ?rS
    case T=>
      constructor
      all_goals (try dsimp only)
      all_goals (try exact mg_of KX G (by k_is))
      all_goals first | exact mg_none_of KX G (by k_is) | exact ⟨_,mg_of KX G (by k_is)⟩ | (show kitOne _ _ _=_;kit_is) | (show exmOne _ _ _=_;kts_exm) | (show findIn _ _ _=_;k_is) | exact ⟨by k_is,by k_is,by k_is,by k_is⟩ | exact ⟨by k_exc⟩ | exact ⟨(show isClsIn _ _=true by k_is),by k_is,by k_is,by k_is,by k_is,by k_is,by k_is,by k_is⟩ | exact ⟨by k_is,by k_is⟩ | exact T1.zdB (by k_is) | exact T1.zdA (by k_is)
    case D=>
      constructor
      all_goals first | refine ⟨_,mg_of KX G (by k_is),?_⟩ | refine ⟨_,⟨by k_is,by k_is,by k_is⟩,?_⟩ | refine ⟨_,⟨by k_is,by k_is,by k_is,by k_is⟩,?_⟩
      all_goals first | exact L2.fb2 (by k_is) (by k_is) (by k_is) fun _ _ _ _ _ _ _ _=>rfl | exact L2.fb1 (by k_is) (by k_is) (by k_is) fun _ _ _ _ _ _ _=>rfl | exact L2.fb3 (by k_is) (by k_is) (by k_is) fun _ _ _ _ _ _ _ _ _=>rfl | exact L2.fb4 (by k_is) (by k_is) (by k_is) fun _ _ _ _ _ _ _ _ _ _=>rfl | exact L2.fb0 (by k_is) (by k_is) (by k_is) fun _ _ _ _ _ _=>rfl | exact L2.fb5 (by k_is) (by k_is) (by k_is) fun _ _ _ _ _ _ _ _ _ _ _=>rfl
    case rT=>exact ⟨_,_,_,mg_of KX G (by k_is),by k_is,by (repeat (first | exact trivial | refine ⟨⟨_,_,rfl,rfl⟩,?_⟩)),⟨_,by k_is,mg_of KX G (by k_is)⟩,⟨_,by k_is,mg_of KX G (by k_is)⟩,⟨_,by k_is,mg_of KX G (by k_is)⟩,⟨_,by k_is,mg_of KX G (by k_is)⟩,⟨_,by k_is,mg_of KX G (by k_is)⟩⟩
    case rS=>exact ⟨_,_,_,mg_of KX G (by k_is),by k_is,by (repeat (first | exact trivial | refine ⟨⟨_,_,rfl,rfl⟩,?_⟩)),⟨_,by k_is,mg_of KX G (by k_is)⟩,⟨_,by k_is,mg_of KX G (by k_is)⟩,⟨_,by k_is,mg_of KX G (by k_is)⟩,⟨_,by k_is,mg_of KX G (by k_is)⟩,⟨_,by k_is,mg_of KX G (by k_is)⟩⟩
  )
#print axioms PySem.Challenge.cw_tightrows_k30_tables_and_rows_holds
