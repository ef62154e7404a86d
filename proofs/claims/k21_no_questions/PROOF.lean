import PyProof.Rows.All
import Wide.All
import OpenK.AllK
import Wide.FinOn
import Lean
import PyProof.EqAt
import PyProof.EqKinds
import PyProof.TupleCall
import PyProof.AutoIntG2
import PyProof.ZipIter
import PyProof.Rows.ZipGen
import PyProof.NeKinds
import PyProof.Rows.SumAny
import KE.KRevIter
import KE.KRevSl
import PyProof.Rows.StrJoin2
import PyProof.Rows.Range3
import KE.KMinKey
import KE.KDictLaws
import KE.KDictList
import KE.KIntText
import PyProof.Rows.RegReprOcc
import PyProof.AutoSeq1
import PyProof.DictWalks
import PyProof.MeetsIn
import PyProof.CallType
import PyProof.Rows.SetFrom
import KE.KDictSum
import PyProof.Rows.SortWalk
import PyProof.FString5
import KE.KLam
import KE.KNestM
import PyProof.AttrMissHeap
import PyProof.FactsAll.zip_1
import PyProof.FactsAll.zip_0
import KE.KDictOf
import PyProof.WalksEnum
import PyProof.EnumMake
import PySem.Challenge.RW_tightrows_k21_no_questions
set_option Elab.async false
set_option linter.all false
set_option maxRecDepth 100000
namespace L2
open PySem PySem.Spec PyProof.Rows
theorem ag{α β:Type _}{as:List α}(f:α->β):(as.map f).length=as.length:=List.length_map f
theorem aH{α:Type _}{l:List α}{i:Nat}(h:i < l.length):l[i]?=some l[i]:=List.getElem?_eq_getElem h
theorem ah{α β:Type}{M:Model}{A:Around}{E:Value->Shared->Prop}{s:Shared}{m:Sem α}{f:α->Sem β}{Q:β->Shared->Prop}(h:wpAny M A m (λ a s'=>wpAny M A (f a) Q E s') E s):wpAny M A (m >>= f) Q E s:=wpAny_bind h
theorem al_gs{α:Type _}{i:Nat}{a:α}{l:List α}:l[i]?=some a↔∃ h,l[i]=a:=List.getElem?_eq_some_iff
theorem aL{α β:Type _}{f:α->β}{l:List α}{i:Nat}:(l.map f)[i]?=l[i]?.map f:=List.getElem?_map
theorem aB{n m:Nat}(h:n.ble m=true):n<=m:=Nat.le_of_ble_eq_true h
theorem bc{α:Type _}{as bs:List α}:(as++bs).length=as.length+bs.length:=List.length_append
theorem aJ{α β:Type _}{f:α->β}{a b:List α}:(a++b).map f=a.map f++b.map f:=List.map_append
theorem cA{α:Type _}{l:List α}{i:Nat}{a:α}(h:l[i]?=some a):a∈l:=List.mem_of_getElem? h
theorem aU{h:Heap}{a:Addr}{o':Obj}(o:Obj)(e:h.get? a=some o'):(h.push o).get? a=some o':=Heap.get?_push_of_some o e
theorem aM{p:Prop}[Decidable p](h:¬p):decide p=false:=decide_eq_false h
theorem aO{p:Prop}[Decidable p](h:p):decide p=true:=decide_eq_true h
theorem al_mc{α:Type _}{a b:α}{l:List α}:a∈b::l↔a=b\/a∈l:=List.mem_cons
theorem bp{α:Type _}(y:α){a:α}{l:List α}(h:a∈l):a∈y::l:=List.mem_cons_of_mem y h
theorem aW{α:Type _}{as:List α}:as.toArray.size=as.length:=List.size_toArray
theorem aX{α:Type _}{l:List α}:l.take l.length=l:=List.take_length
theorem be{α:Type _}{i:Nat}{l:List α}:(l.take i).length=min i l.length:=List.length_take
theorem aC{α:Type}{M:Model}{A:Around}{E:Value->Shared->Prop}{s:Shared}{a:α}{Q:α->Shared->Prop}(h:Q a s):wpAny M A (pure a) Q E s:=wpAny_pure h
theorem al_mp{α:Type _}{a:α}{s t:List α}:a∈s++t↔a∈s\/a∈t:=List.mem_append
theorem bi:false≠true:=Bool.false_ne_true
theorem b9{α:Type _}{a:α}{l:List α}:a∈a::l:=List.mem_cons_self
theorem al_mi{α:Type _}{a b:α}:a∈[b]↔a=b:=List.mem_singleton
theorem dF{α:Type _}{a:α}:[a].length=1:=List.length_singleton
variable {P prog q:Program} {w:World} {A:Around} {E Q:Value->Shared->Prop} {s s' s2:Shared} {its its' us vs:List Value} {name p0 p1 qual x y:Str} {cd cdv cls ct ctv doc oc pm u v vl vu:Value} {α κ:Type} {C I S a b c c' d dx i1 i2 it l1 l2 z:Addr} {base h h' h1 h2:Heap} {e elt iter tg value:Expr} {pins pins' pn:List (Addr × Obj)} {g':Array GenState} {i j n t' tk:Nat} {d':Drawn} {ch fp ts wr:List Addr} {N loose ps:List Str} {M:Model} {R:Result->Shared->Prop} {f:Value->Value->Sem Value} {apos cpos kpos np p p2 p3 p4 pos pos' py spos tpos:Pos} {op:CmpOp} {K:W.Frag} {st:Stmt} {elts es ifs values:List Expr} {body:List Stmt} {l:List Nat} {lo:Int} {hi:Option Int} {pl:Sem Bool} {m mA mg:Str->Option Value} {ns:List Int} {kw:List (Str × Value)} {env:Env} {fd:FuncData} {outer:List Env} {ks:List (Option Expr)} {kindOf:Str->Option NameKind} {sc scope:Scope} {an od:Option Addr} {osl sl:Array (Option Value)} {items:Array Value} {XP:(Str->Option Value)->Heap->Prop} {YP:World->Heap->Prop} {B:Prop} {bt:Nat->Nat->Bool} {ar:Arguments} {cl:List (Str × Addr)} {kv:Nat->Value × Value}
noncomputable abbrev Key:=Sum (Option Int) Str
noncomputable def ig:Key->Value->Bool
 | .inl none,v=>v == Value.none
 | .inl (some k),v=>Value.isInt k v
 | .inr x,v=>Value.isStrOf x v
noncomputable def z9(w:World):Key->Int
 | .inl none=>0xFCA86420
 | .inl (some k)=>hashInt k
 | .inr x=>hashStr w x
theorem d0:∀ {k:Key} {v:Value},ig k v=true->(k=Sum.inl none/\v=Value.none)\/(∃ i t,k=Sum.inl (some i)/\v=Value.int i t)\/(∃ x t,k=Sum.inr x/\v=Value.str x t)
 | .inl none,v,h=>.inl ⟨rfl,eq_of_beq h⟩
 | .inl (some i),v,h=>by
  obtain ⟨t,e⟩:=Value.isInt_shape (k:=i) (v:=v) h;exact .inr (.inl ⟨i,t,rfl,e⟩)
 | .inr x,v,h=>by
  obtain ⟨t,e⟩:=Value.isStrOf_shape (x:=x) (v:=v) h;exact .inr (.inr ⟨x,t,rfl,e⟩)
theorem zaa(i:Int)(t:Tok):ig (.inl (some i)) (.int i t)=true:=by simp [ig,Value.isInt]
theorem zab(x:Str)(t:Tok):ig (.inr x) (.str x t)=true:=by simp [ig,Value.isStrOf]
theorem zac(a b:Int):decide ((Sum.inl (some a):Key)=Sum.inl (some b))=(a == b):=by
 by_cases e:a=b
 ·subst e;simp
 ·have h:¬ (Sum.inl (some a):Key)=Sum.inl (some b):=λ q=>e (Option.some.inj (Sum.inl.inj q));rw [aM h];exact (beq_eq_false_iff_ne.mpr e).symm
theorem zaj(a b:Str):decide ((Sum.inr a:Key)=Sum.inr b)=decide (a=b):=by
 by_cases e:a=b
 ·subst e;simp
 ·have h:¬ (Sum.inr a:Key)=Sum.inr b:=λ q=>e (Sum.inr.inj q);rw [aM h,aM e]
theorem zaf(b:Int):decide ((Sum.inl none:Key)=Sum.inl (some b))=false:=aM (by intro z;cases z)
theorem zag(b:Str):decide ((Sum.inl none:Key)=Sum.inr b)=false:=aM (by intro z;cases z)
theorem zad(a:Int):decide ((Sum.inl (some a):Key)=Sum.inl none)=false:=aM (by intro z;cases z)
theorem zae(a:Int)(b:Str):decide ((Sum.inl (some a):Key)=Sum.inr b)=false:=aM (by intro z;cases z)
theorem zai(a:Str):decide ((Sum.inr a:Key)=Sum.inl none)=false:=aM (by intro z;cases z)
theorem zah(a:Str)(b:Int):decide ((Sum.inr a:Key)=Sum.inl (some b))=false:=aM (by intro z;cases z)
theorem zeq{Q:Int->Shared->Prop}(h:Q 0xFCA86420 { s with toks:=s.toks+1 }):
  wpAny (model prog w) A (PySem.pyHash .none) Q E s:=by
 have hT:s.TypeIs .none "NoneType" := rfl;unfold PySem.pyHash;have hv:[Value.none].any Value.onHeap=false:=rfl;refine ah ?_;rw [cRoomFor,if_neg (by rw [hv];exact bi)];refine aC ?_;refine ah (wpAny_specialOf hT F.slot_NoneType_hash.lookup ?_);show wpAny _ _ (if (some (Value.builtin "NoneType.__hash__") == some Value.none)=true then _ else _) Q E s;rw [if_neg (by rw [beq_builtin_none];exact bi)];refine ah (wpAny_specialOf hT F.slot_NoneType_hash.lookup ?_);show wpAny _ _ (callSpecialIfBoundUnlessNone? .none "__hash__" _ >>= _) Q E s;refine ah (wpAny_callSpecialIfBoundUnlessNone?_slot hT F.slot_NoneType_hash
  (wpAny_call_entry F.slot_NoneType_hash hT F.entry_NoneType_hash
   (show wpAny _ _ (do ret (← mkInt 0xFCA86420)) _ _ s from wpAny_ret_mkInt ?_) (F.args_NoneType_hash_1 _)))
 show wpAny _ _ (if (decide (-(2:Int) ^ 63<=0xFCA86420) && decide ((0xFCA86420:Int) < 2 ^ 63))=true then _ else _) Q E _;rw [if_pos (by decide)];exact aC h
noncomputable def cf(prog:Program)(w:World):PySem.KeyKind prog w Key where
 is:=ig
 hash:=z9 w
 inj:=λ v a b ha hb=>by
  rcases d0 ha with ⟨rfl,rfl⟩ | ⟨i,t,rfl,rfl⟩ | ⟨x,t,rfl,rfl⟩
  ·rcases d0 hb with ⟨rfl,e⟩ | ⟨j,u,rfl,e⟩ | ⟨y,u,rfl,e⟩
   ·rfl
   ·exact nomatch e
   ·exact nomatch e
  ·rcases d0 hb with ⟨rfl,e⟩ | ⟨j,u,rfl,e⟩ | ⟨y,u,rfl,e⟩
   ·exact nomatch e
   ·injection e with e1 _;rw [e1]
   ·exact nomatch e
  ·rcases d0 hb with ⟨rfl,e⟩ | ⟨j,u,rfl,e⟩ | ⟨y,u,rfl,e⟩
   ·exact nomatch e
   ·exact nomatch e
   ·injection e with e1 _;rw [e1]
 byValue:=λ k v h=>by
  rcases d0 h with ⟨rfl,rfl⟩ | ⟨i,t,rfl,rfl⟩ | ⟨x,t,rfl,rfl⟩ <;> rfl
 pyHash:=λ hv h=>by
  rcases d0 hv with ⟨rfl,rfl⟩ | ⟨i,t,rfl,rfl⟩ | ⟨x,t,rfl,rfl⟩
  ·exact zeq h
  ·exact wpAny_pyHash_int h
  ·exact wpAny_pyHash_str h
 eqBool:=λ hu hv h=>by
  rcases d0 hu with ⟨rfl,rfl⟩ | ⟨i,t,rfl,rfl⟩ | ⟨x,t,rfl,rfl⟩
  ·rcases d0 hv with ⟨rfl,rfl⟩ | ⟨j,u,rfl,rfl⟩ | ⟨y,u,rfl,rfl⟩
   ·rw [aO rfl] at h;exact SeqAt.EqAt.same _ _ _ _ _ h
   ·rw [zaf] at h;exact SeqAt.EqAt.none_int j u _ _ _ _ h
   ·rw [zag] at h;exact SeqAt.EqAt.none_str y u _ _ _ _ h
  ·rcases d0 hv with ⟨rfl,rfl⟩ | ⟨j,u,rfl,rfl⟩ | ⟨y,u,rfl,rfl⟩
   ·rw [zad] at h;exact SeqAt.EqAt.int_none i t _ _ _ _ h
   ·rw [zac] at h;exact wpAny_eqBool_int h
   ·rw [zae] at h;exact SeqAt.EqAt.int_str i t y u _ _ _ _ h
  ·rcases d0 hv with ⟨rfl,rfl⟩ | ⟨j,u,rfl,rfl⟩ | ⟨y,u,rfl,rfl⟩
   ·rw [zai] at h;exact SeqAt.EqAt.str_none x t _ _ _ _ h
   ·rw [zah] at h;exact SeqAt.EqAt.str_int x t j u _ _ _ _ h
   ·rw [zaj] at h;exact wpAny_eqBool_str h
 «strs»:=λ k x t v h=>by
  rcases d0 h with ⟨rfl,e⟩ | ⟨i,u,rfl,e⟩ | ⟨y,u,rfl,e⟩
  ·exact nomatch e
  ·exact nomatch e
  ·injection e with e1 _
   subst e1;cases v <;> rfl
theorem zbg(prog:Program)(w:World)(i:Int)(t:Tok):(cf prog w).is (.inl (some i)) (.int i t)=true:=zaa i t
theorem zbh(prog:Program)(w:World)(x:Str)(t:Tok):(cf prog w).is (.inr x) (.str x t)=true:=zab x t
inductive V where
 | non | bl (b:Bool) | int (i:Int) | str (x:Str) | byt (b:Array UInt8) | flt (b:UInt64) | ref (a:Addr) | ty (n:String)
 deriving DecidableEq
variable {acc xs ys:List V} {kvs:List (List Key × V)} {L:List (Str × V)}
noncomputable def RelV:V->Value->Prop
 | .non,u=>u=Value.none
 | .bl b,u=>u=Value.bool b
 | .int i,u=>∃ t,u=Value.int i t
 | .str x,u=>∃ t,u=Value.str x t
 | .byt b,u=>∃ t,u=Value.bytes b t
 | .flt b,u=>∃ t,u=Value.float b t
 | .ref a,u=>u=Value.ref a
 | .ty n,u=>u=Value.type n
noncomputable abbrev Vals:List V->List Value->Prop:=Paired RelV
theorem Vals.length{xs:List V}{us:List Value}(r:Vals xs us):xs.length=us.length:=Paired.length r
theorem Vals.get:∀ {xs:List V} {us:List Value} {i:Nat} {x:V},Vals xs us->xs[i]?=some x->∃ u,us[i]?=some u/\RelV x u
 | _,_,_,_,.nil,e=>by simp at e
 | _,_,0,_,.cons r _,e=>by simp at e;subst e;exact ⟨_,rfl,r⟩
 | _,_,i+1,x,.cons _ t,e=>by
  obtain ⟨u,h1,h2⟩:=Vals.get (i:=i) (x:=x) t (by simpa using e);exact ⟨u,by simpa using h1,h2⟩
theorem Vals.set{x:V}{u:Value}(r:RelV x u):∀ {xs:List V} {us:List Value} (i:Nat),Vals xs us->Vals (xs.set i x) (us.set i u)
 | _,_,_,.nil=>.nil
 | _,_,0,.cons _ t=>.cons r t
 | _,_,i+1,.cons q t=>.cons q (Vals.set r i t)
theorem Vals.append:∀ {xs ys:List V} {us ws:List Value},Vals xs us->Vals ys ws->Vals (xs++ys) (us++ws)
 | _,_,_,_,.nil,s=>s
 | _,_,_,_,.cons r t,s=>.cons r (Vals.append t s)
theorem Vals.take:∀ {xs:List V} {us:List Value} (n:Nat),Vals xs us->Vals (xs.take n) (us.take n)
 | _,_,0,_=>.nil
 | _,_,_+1,.nil=>.nil
 | _,_,n+1,.cons r t=>.cons r (Vals.take n t)
theorem Vals.drop:∀ {xs:List V} {us:List Value} (n:Nat),Vals xs us->Vals (xs.drop n) (us.drop n)
 | _,_,0,r=>r
 | _,_,_+1,.nil=>.nil
 | _,_,n+1,.cons _ t=>Vals.drop n t
theorem Vals.none_of:∀ {xs:List V} {us:List Value} {i:Nat},Vals xs us->xs[i]?=none->us[i]?=none:=λ {xs us i} r e=>by
 have h1:=r.length;have h2:xs.length<=i:=List.getElem?_eq_none_iff.mp e;exact List.getElem?_eq_none_iff.mpr (by omega)
noncomputable def RelO:Option V->Option Value->Prop
 | some v,some u=>RelV v u
 | none,none=>True
 | _,_=>False
noncomputable def KV  : List (κ × V)->List (κ × Value)->Prop:=Paired λ (p:κ × V) (q:κ × Value)=>p.1=q.1/\RelV p.2 q.2
noncomputable def kV:Key->V
 | .inl none=>.non
 | .inl (some i)=>.int i
 | .inr x=>.str x
inductive HO where
 /-- a list -/
 | lst (xs:List V)
 /-- a tuple (never changes) -/
 | tup (xs:List V)
 /-- a dict whose keys are ints and texts;one whose keys are tuples of ints and texts (the empty one is both) -/
 | dK (kvs:List (Key × V)) | dT (kvs:List (List Key × V))
 /-- a set of ints: its members,its size -/
 | set (S:Int->Bool) (n:Nat)
 /-- an instance of the class at C,its dict at dx,its attributes -/
 | ins (C dx:Addr) (fs:List (Str × V))
 /-- the dict of the instance at x -/
 | own (x:Addr)
 /-- the dict of an exception -/
 | xd (fs:List (Str × V))
 /-- a bound method,f of x -/
 | met (f x:Addr)
 /-- a range object lo,lo+1,.. below hi -/
 | rng (lo hi:Int)
 /-- a thing that is known to the object (the script;a dict while a loop walks it): read,never written while it is so -/
 | frz (o:Obj) (u:HO)
 /-- a code object's table -/
 | tbl (ps:Array Value)
 /-- any other thing,by what is true of its one object (a def of one's own: SetO a S n:=HO.ext λ h=>..) -/
 | ext (φ:Heap->Prop)
variable {o:HO}
noncomputable abbrev Hp:=Addr->Option HO
variable {H H' H1 H2:Hp} {Qe:List V->Hp->Prop}
noncomputable def upd(H:Hp)(a:Addr)(o:HO):Hp:=λ b=>if b=a then some o else H b
theorem af    : upd H a o a=some o:=by unfold upd;rw [if_pos rfl]
theorem ai(h:b≠a):upd H a o b=H b:=by unfold upd;rw [if_neg h]
theorem dD{u:HO}(h:H a=some o)(h':H b=some u)(d:o≠u):a≠b:=by
 intro e;subst e;rw [h] at h';exact d (Option.some.inj h')
theorem aK(h:H a=some o)(h':H b=none):a≠b:=by
 intro e;subst e;rw [h] at h';cases h'
section
variable (P:Program) (w:World)
noncomputable def ObjOk(H:Hp)(h:Heap)(a:Addr):HO->Prop
 | .lst xs=>xs.length<=sizeLine/\∃ (its:List Value) (n:Nat),Vals xs its/\h.get? a=some { cls:=.type "list", data:=.seq its.toArray n }
 | .tup xs=>xs.length<=sizeLine/\∃ its:List Value,Vals xs its/\IsTup h a its.toArray
 | .dK kvs=>kvs.length<=sizeLine/\(a == sysModules)=false/\∃ vs,KV kvs vs/\h.DictOf (cf P w) a vs
 | .dT kvs=>kvs.length<=sizeLine/\(a == sysModules)=false/\∃ xs:List (List Key × Addr × Value),
   Paired (λ (p:List Key × V) (q:List Key × Addr × Value)=>p.1=q.1/\H q.2.1=some (.tup (p.1.map kV))/\RelV p.2 q.2.2) kvs xs/\
   ∃ o es ep,h.get? a=some o/\o.ExactDict/\o.data = .dict es ep/\es.toList=xs.map (entryOfKey (tupleKind (cf P w)))/\(xs.map (·.1)).Nodup
 | .set S n=>h.SetOf (intKind P w) a S n
 | .ins C dx fs=>H dx=some (.own a)/\fs.length<=1000/\dx≠a/\h.get? a=some (W.instObj C dx)/\
   ∃ mA,h.Ns1 dx mA/\(∀ f,RelO (fs.lookup f) (mA f))/\PySem.Within mA (fs.map (·.1))
 | .own _=>∃ o,h.get? a=some o
 | .xd fs=>∃ mA,h.Ns1 a mA/\∀ f,RelO (fs.lookup f) (mA f)
 | .rng lo hi=>∃ t u v,h.get? a=some { cls:=.type "range", data:=.fields #[.int lo t,.int hi u,.int 1 v] }
 | .frz o u=>h.get? a=some o/\ObjOk H h a u
 | .tbl ps=>h.get? a=some { cls:=.none,data:=.fields ps }
 | .met f x=>h.get? a=some (W.methodObj (.ref f) (.ref x))
 | .ext φ=>φ h/\(∃ o,h.get? a=some o)/\∀ h1 h2:Heap,φ h1->(∀ o,h1.get? a=some o->h2.get? a=some o)->φ h2
noncomputable def HOk(H:Hp)(h:Heap):Prop:=∀ a o,H a=some o->ObjOk P w H h a o
end
theorem ObjOk.lt(x:ObjOk P w H h a o):a < h.objs.size:=by
 cases o with
 | lst xs=>obtain ⟨_,_,_,_,e⟩:=x;exact Heap.lt_size e
 | tup xs=>obtain ⟨_,_,_,p⟩:=x;exact p.lt
 | dK kvs=>obtain ⟨_,_,_,_,o,_,_,e,_⟩:=x;exact Heap.lt_size e
 | dT kvs=>obtain ⟨_,_,_,_,o,_,_,e,_⟩:=x;exact Heap.lt_size e
 | set S n=>obtain ⟨o,_,_,_,e,_⟩:=x;exact Heap.lt_size e
 | ins C dx fs=>obtain ⟨_,_,_,e,_⟩:=x;exact Heap.lt_size e
 | own y=>obtain ⟨_,e⟩:=x;exact Heap.lt_size e
 | xd fs=>obtain ⟨_,⟨_,_,_,e,_⟩,_⟩:=x;exact Heap.lt_size e
 | rng lo hi=>obtain ⟨_,_,_,e⟩:=x;exact Heap.lt_size e
 | frz ob u=>obtain ⟨e,_⟩:=x;exact Heap.lt_size e
 | tbl ps=>exact Heap.lt_size (show h.get? a=some _ from x)
 | met f y=>exact Heap.lt_size (show h.get? a=some _ from x)
 | ext φ=>obtain ⟨_,⟨_,e⟩,_⟩:=x;exact Heap.lt_size e
theorem Paired.mapP{α β:Type}{F G:α->β->Prop}:∀ {l₁:List α} {l₂:List β},Paired F l₁ l₂->(∀ a b,F a b->G a b)->Paired G l₁ l₂
 | _,_,.nil,_=>.nil
 | _,_,.cons r t,f=>.cons (f _ _ r) (Paired.mapP t f)
theorem ObjOk.stay(x:ObjOk P w H h a o)(k:∀ b u,(b=a\/H b=some (.own a))->h.get? b=some u->h'.get? b=some u)(ho:∀ b,H b=some (.own a)->H' b=some (.own a))(ht:∀ b xs,H b=some (.tup xs)->H' b=some (.tup xs)):ObjOk P w H' h' a o:=by
 induction o with
 | lst xs=>obtain ⟨z,its,n,r,e⟩:=x;exact ⟨z,its,n,r,k _ _ (.inl rfl) e⟩
 | tup xs=>obtain ⟨z,its,r,ob,e,c⟩:=x;exact ⟨z,its,r,ob,k _ _ (.inl rfl) e,c⟩
 | dK kvs=>obtain ⟨z,y,vs,r,ob,es,ep,e,c⟩:=x;exact ⟨z,y,vs,r,ob,es,ep,k _ _ (.inl rfl) e,c⟩
 | dT kvs=>
  obtain ⟨z,y,xs,r,ob,es,ep,e,c⟩:=x;exact ⟨z,y,xs,Paired.mapP r λ p q z=>⟨z.1,ht _ _ z.2.1,z.2.2⟩,ob,es,ep,k _ _ (.inl rfl) e,c⟩
 | set S n=>obtain ⟨ob,es,ep,t,e,c⟩:=x;exact ⟨ob,es,ep,t,k _ _ (.inl rfl) e,c⟩
 | ins C dx fs=>
  obtain ⟨d,z,ne,e,mA,⟨od,es,ep,e2,c⟩,r⟩:=x;exact ⟨ho _ d,z,ne,k _ _ (.inl rfl) e,mA,⟨od,es,ep,k _ _ (.inr d) e2,c⟩,r⟩
 | own y=>obtain ⟨ob,e⟩:=x;exact ⟨ob,k _ _ (.inl rfl) e⟩
 | xd fs=>obtain ⟨mA,⟨od,es,ep,e,c⟩,r⟩:=x;exact ⟨mA,⟨od,es,ep,k _ _ (.inl rfl) e,c⟩,r⟩
 | rng lo hi=>obtain ⟨t,u,v,e⟩:=x;exact ⟨t,u,v,k _ _ (.inl rfl) e⟩
 | frz ob u ih=>obtain ⟨e,q⟩:=x;exact ⟨k _ _ (.inl rfl) e,ih q⟩
 | tbl ps=>
  have e:h.get? a=some { cls:=.none,data:=.fields ps }:=x;show h'.get? a=some { cls:=.none,data:=.fields ps };exact k a _ (.inl rfl) e
 | met f y=>
  have e:h.get? a=some (W.methodObj (.ref f) (.ref y)):=x;show h'.get? a=some (W.methodObj (.ref f) (.ref y));exact k a _ (.inl rfl) e
 | ext φ=>obtain ⟨p,⟨o,e⟩,st⟩:=x;exact ⟨st _ _ p λ o q=>k _ _ (.inl rfl) q,⟨o,k _ _ (.inl rfl) e⟩,st⟩
theorem HOk.lt(x:HOk P w H h)(e:H a=some o):a < h.objs.size:=(x a o e).lt
theorem HOk.fresh(x:HOk P w H h)(e:h.objs.size<=a):H a=none:=by
 cases q:H a with
 | none=>rfl
 | some u=>exact absurd (Nat.lt_of_lt_of_le (x.lt q) e) (Nat.lt_irrefl _)
theorem HOk.kept(x:HOk P w H h)(k:∀ b u,h.get? b=some u->h'.get? b=some u):HOk P w H h':=λ a o e=>
 (x a o e).stay (λ b u _ q=>k b u q) (λ _ q=>q) λ _ _ q=>q
theorem HOk.laid(x:HOk P w H h)(k:∀ b u,h.get? b=some u->h'.get? b=some u)(hp:h.objs.size<=a)(new:ObjOk P w (upd H a o) h' a o):HOk P w (upd H a o) h':=λ b u e=>by
 have hn:=x.fresh hp;by_cases hb:b=a
 ·subst hb;rw [af] at e;cases e;exact new
 ·rw [ai hb] at e;exact (x b u e).stay (λ c v _ q=>k c v q) (λ c q=>by rw [ai (aK q hn)];exact q) λ c xs q=>by rw [ai (aK q hn)];exact q
noncomputable def Rd(H:Hp)(a:Addr)(u:HO):Prop:=H a=some u\/∃ o,H a=some (.frz o u)
theorem Rd.of{u:HO}(h:H a=some u):Rd H a u:=.inl h
theorem Rd.ok{u:HO}(r:Rd H a u)(x:HOk P w H h):ObjOk P w H h a u:=by
 rcases r with r | ⟨o,r⟩
 ·exact x a u r
 ·obtain ⟨_,q⟩:=x a _ r;exact q
noncomputable def Mut:Option HO->Prop
 | some (.lst _)=>True
 | some (.dK _)=>True
 | some (.dT _)=>True
 | some (.set _ _)=>True
 | some (.ins _ _ _)=>True
 | some (.ext _)=>True
 | _=>False
section
variable {x e:Addr} {o':HO}
theorem HOk.write(ok:HOk P w H h)(mu:Mut (H x))(he:e=x\/H e=some (.own x))(k:∀ b u,b≠e->h.get? b=some u->h'.get? b=some u)(heo:∃ u,h'.get? e=some u)(new:ObjOk P w (upd H x o') h' x o'):HOk P w (upd H x o') h':=λ b u q=>by
 have nown:∀ c y,H c=some (.own y)->c≠x:=λ c y r z=>by subst z;rw [r] at mu;exact mu
 have ntup:∀ c xs,H c=some (.tup xs)->c≠x:=λ c xs r z=>by subst z;rw [r] at mu;exact mu
 by_cases hb:b=x
 ·subst hb;rw [af] at q;cases q;exact new
 ·rw [ai hb] at q;by_cases hbe:b=e
  ·have q':H b=some (.own x):=by
    rcases he with z | z
    ·exact absurd (hbe.trans z) hb
    ·rw [hbe];exact z
   rw [q] at q';cases q';obtain ⟨v,hv⟩:=heo;exact ⟨v,by rw [hbe];exact hv⟩
  ·refine (ok b u q).stay (λ c v hc r=>k c v ?_ r) (λ c r=>by rw [ai (nown c b r)];exact r) λ c xs r=>by rw [ai (ntup c xs r)];exact r
   rcases hc with rfl | hc
   ·exact hbe
   ·rintro rfl;rcases he with z | z
    ·exact nown c b hc z
    ·rw [hc] at z;cases z;exact hb rfl
end
structure Un (fs ex:List Addr) (H H':Hp) (h h':Heap):Prop where
 keep:∀ b o,h.get? b=some o->H b=none->b∉fs->b∉ex->h'.get? b=some o
 slot:∀ b o,h.get? b=some o->H b=none->b∈fs->b∉ex->∃ sl,h'.get? b=some { o with slots:=sl }
 free:∀ b o,h.get? b=some o->H b=none->b∉ex->H' b=none
 there:∀ b o,h.get? b=some o->b∉ex->∃ o',h'.get? b=some o'
 tups:∀ b xs,H b=some (.tup xs)->H' b=some (.tup xs)
 frzs:∀ b o u,H b=some (.frz o u)->H' b=some (.frz o u)
 tbls:∀ b ps,H b=some (.tbl ps)->∃ more,H' b=some (.tbl (ps++more))
section
variable {fs fs' ex ex':List Addr} {x e:Addr}
theorem Un.any(u:Un fs ex H H1 h h1){ob:Obj}(q:h.get? b=some ob)(n:H b=none)(hx:b∉ex):∃ sl,h1.get? b=some { ob with slots:=sl }:=by
 by_cases hb:b∈fs
 ·exact u.slot b ob q n hb hx
 ·exact ⟨ob.slots,u.keep b ob q n hb hx⟩
theorem Un.trans(a:Un fs ex H H1 h h1)(b:Un fs ex H1 H2 h1 h2):Un fs ex H H2 h h2 where
 keep:=λ c ob q n hc hx=>b.keep c ob (a.keep c ob q n hc hx) (a.free c ob q n hx) hc hx
 slot:=λ c ob q n hc hx=>by
  obtain ⟨sl,e1⟩:=a.slot c ob q n hc hx;obtain ⟨sl',e2⟩:=b.slot c _ e1 (a.free c ob q n hx) hc hx;exact ⟨sl',e2⟩
 free:=λ c ob q n hx=>by
  obtain ⟨o',e1⟩:=a.there c ob q hx;exact b.free c o' e1 (a.free c ob q n hx) hx
 there:=λ c ob q hx=>by
  obtain ⟨o',e1⟩:=a.there c ob q hx;exact b.there c o' e1 hx
 tups:=λ c xs q=>b.tups c xs (a.tups c xs q)
 frzs:=λ c ob xs q=>b.frzs c ob xs (a.frzs c ob xs q)
 tbls:=λ c ps q=>by
  obtain ⟨m1,e1⟩:=a.tbls c ps q;obtain ⟨m2,e2⟩:=b.tbls c _ e1;exact ⟨m1++m2,by rw [e2,Array.append_assoc]⟩
theorem Un.kept(k:∀ b u,h.get? b=some u->h'.get? b=some u):Un fs ex H H h h':=
 ⟨λ b ob q _ _ _=>k b ob q,λ b ob q _ _ _=>⟨ob.slots,k b ob q⟩,λ _ _ _ n _=>n,λ b ob q _=>⟨ob,k b ob q⟩,λ _ _ q=>q,λ _ _ _ q=>q,λ _ ps q=>⟨#[],by rw [q];simp⟩⟩
theorem Un.refl:Un fs ex H H h h:=Un.kept λ _ _ q=>q
theorem Un.laid(k:∀ b u,h.get? b=some u->h'.get? b=some u)(hp:h.objs.size<=a)(hn:H a=none):Un fs ex H (upd H a o) h h' where
 keep:=λ b u q _ _ _=>k b u q
 slot:=λ b u q _ _ _=>⟨u.slots,k b u q⟩
 free:=λ b u q n _=>by rw [ai (Nat.ne_of_lt (Nat.lt_of_lt_of_le (Heap.lt_size q) hp))];exact n
 there:=λ b u q _=>⟨u,k b u q⟩
 tups:=λ b xs q=>by rw [ai (aK q hn)];exact q
 frzs:=λ b u xs q=>by rw [ai (aK q hn)];exact q
 tbls:=λ b ps q=>⟨#[],by rw [ai (aK q hn),q];simp⟩
theorem Un.write(mu:Mut (H x))(he:e=x\/H e=some (.own x))(k:∀ b u,b≠e->h.get? b=some u->h'.get? b=some u)(heo:∃ u,h'.get? e=some u):Un fs ex H (upd H x o) h h':=by
 have hx:∀ b,H b=none->b≠x:=λ b n z=>by subst z;rw [n] at mu;exact mu
 have hb:∀ b,H b=none->b≠e:=λ b n z=>by
  subst z;rcases he with r | r
  ·exact hx b n r
  ·rw [n] at r;cases r
 have hm:∀ b u,H b=some u->¬ Mut (some u)->b≠x:=λ b u q nm z=>by subst z;rw [q] at mu;exact nm mu
 refine ⟨λ b u q n _ _=>k b u (hb b n) q,λ b u q n _ _=>⟨u.slots,k b u (hb b n) q⟩,λ b u q n _=>by rw [ai (hx b n)];exact n,λ b u q _=>?_,
  λ b xs q=>by rw [ai (hm b _ q λ z=>z)];exact q,λ b u xs q=>by rw [ai (hm b _ q λ z=>z)];exact q,λ b ps q=>⟨#[],by rw [ai (hm b _ q λ z=>z),q];simp⟩⟩
 by_cases hbe:b=e
 ·subst hbe;exact heo
 ·exact ⟨u,k b u hbe q⟩
theorem Un.mono(u:Un fs ex H H1 h h1)(hs:∀ b∈fs,b∈fs')(hx:∀ b∈ex,b∈ex'):Un fs' ex' H H1 h h1:=
 ⟨λ b ob q n hb he=>u.keep b ob q n (λ z=>hb (hs b z)) λ z=>he (hx b z),λ _ _ q n _ he=>u.any q n λ z=>he (hx _ z),λ b ob q n he=>u.free b ob q n λ z=>he (hx b z),λ b ob q he=>u.there b ob q λ z=>he (hx b z),u.tups,u.frzs,u.tbls⟩
end
noncomputable def trk(h:Heap)(H:Hp):List Addr:=(List.range h.objs.size).filter λ a=>(H a).isSome
noncomputable def ft(h:Heap)(H:Hp):Heap:=W.hideAll h (trk h H)
theorem zp(h:Heap)(H:Hp):(ft h H).objs.size=h.objs.size:=W.hideAll_size _ _
theorem mw{o:Obj}(e:h.get? b=some o)(n:H b=none):(ft h H).get? b=some o:=
 W.hideAll_get _ e λ hm=>by
  have q:(H b).isSome=true:=(List.mem_filter.mp hm).2;rw [n] at q;simp at q
theorem zce{o:Obj}(e:(ft h H).get? b=some o):h.get? b=some o/\H b=none:=by
 have e':h.get? b=some o:=W.of_hideAll (trk h H) e;refine ⟨e',?_⟩;cases q:H b with
 | none=>rfl
 | some x=>
  have hm:b∈trk h H:=List.mem_filter.mpr ⟨List.mem_range.mpr (Heap.lt_size e'),by simp [q]⟩;have z:(ft h H).get? b=none:=W.hideAll_none (trk h H) hm;rw [z] at e;cases e
noncomputable def xn(g h:Heap)(L:Addr):List (Addr × Obj):=(List.range h.objs.size).filterMap λ a=>if a=L\/(g.get? a).isSome=true then none else (h.get? a).map λ o=>(a,o)
noncomputable def rest(g h:Heap)(L d:Addr):List (Addr × Obj):=(xn g h L).filter λ p=>decide (p.1≠d)
structure Mod (K:W.Frag) (mg:Str->Option Value) (base:Heap):Prop where
 kin:K.In base
 glob:base.Ns mainGlobals mg
 blt:∃ mb,base.Ns builtinsNs mb/\∀ x:Str,x ≠ "__name__" -> mb x=bootBuiltins x
 nolimit:base.NoLimit
structure Cx where
 prog:Program
 w:World
 K:W.Frag
 mg:Str->Option Value
 base:Heap
 A:Around
 N:List Str
 s₀:Shared
 H₀:Hp
 env:Env
 outer:List Env
 stack:List Env
 ex:List Addr
 fn:Str->Bool
 calm:Bool
 pn:List (Addr × Obj)
 xe:Value->Shared->Prop
variable {X:Cx}
noncomputable def frs(l:List Env):List Addr:=l.filterMap (·.frame)
noncomputable abbrev Cx.fs(X:Cx):List Addr:=frs X.outer
noncomputable def Vis(sc:Scope)(x:Str):Prop:=sc.names.lookup x=some .local\/sc.names.lookup x=some .cell\/sc.names.lookup x=some .free
noncomputable def Loc(sc:Scope)(x:Str):Prop:=sc.names.lookup x=some .local\/sc.names.lookup x=some .cell
noncomputable def qh(env:Env)(h:Heap)(m:Str->Option Value)(x:Str)(u:Value):Prop:=
 (env.kindOf x=some .local/\m x=some u)\/((env.kindOf x=some .cell\/env.kindOf x=some .free)/\∃ c,env.cells.lookup x=some c/\h.IsCell c (some u))
structure Cx.Ok (X:Cx):Prop where
 mod:Mod X.K X.mg X.base
 kind:X.env.scope.kind = .function
 glob:X.env.globals=mainGlobals
 blt:X.env.builtins=builtinsNs
 above:X.s₀.heap.objs.size<=X.env.locals
 inj:∀ x y c,X.env.cells.lookup x=some c->X.env.cells.lookup y=some c->x=y
 has:∀ x,(X.env.kindOf x=some .cell\/X.env.kindOf x=some .free)->∃ c,X.env.cells.lookup x=some c
 cab:∀ x c,X.fn x=true->X.env.cells.lookup x=some c->X.s₀.heap.objs.size<=c
 hd:X.calm=true->X.A.handled=none
 frames:X.A.frames=some X.stack
 stk:X.stack=X.outer\/(X.stack=X.env::X.outer/\X.env.frame=some X.env.locals)
 exf:∀ b∈X.ex,b≠X.env.locals/\∀ x c,X.env.cells.lookup x=some c->c≠b
 bs:∀ b o,X.base.get? b=some o->X.s₀.heap.get? b=some o/\X.H₀ b=none
 bsz:X.base.objs.size<=X.s₀.heap.objs.size
 noex:∀ b o,X.base.get? b=some o->b∉X.ex
 exfs:∀ b∈X.ex,b∉X.fs
 funs:X.s₀.heap.FunFrames X.base X.outer
 frf:∀ b∈X.fs,X.H₀ b=none
structure Inv (X:Cx) (pins:List (Addr × Obj)) (σ:List (Option V)) (H:Hp) (s:Shared):Prop where
 ok:X.Ok
 os:s.os=X.s₀.os
 bare:AllBare s.gens
 base:Un X.fs X.ex X.H₀ H X.s₀.heap s.heap
 loc:∃ m,s.heap.Ns X.env.locals m/\∀ (i:Nat) (x:Str) (v:V),X.N[i]?=some x->σ[i]?=some (some v)->Vis X.env.scope x->∃ u,RelV v u/\qh X.env s.heap m x u
 cell:∀ x c,X.env.cells.lookup x=some c->∃ v,s.heap.IsCell c v
 free:H X.env.locals=none
 freeC:∀ x c,X.env.cells.lookup x=some c->H c=none
 pin:∀ p∈X.pn++pins,s.heap.get? p.1=some p.2/\H p.1=none/\p.1≠X.env.locals/\p.1∉X.fs/\∀ v,p.2.data≠.cell v
 hok:HOk X.prog X.w H s.heap
 len:σ.length=X.N.length
section
variable {σ:List (Option V)}
theorem Cx.Ok.nofr(ok:X.Ok){o:Obj}(e:X.base.get? b=some o):b∉X.fs:=λ hb=>by
 have:=(ok.funs.mem hb).1;rw [e] at this;cases this
theorem Inv.bs(I:Inv X pins σ H s):∀ b o,X.base.get? b=some o->s.heap.get? b=some o/\H b=none:=λ b o e=>
 ⟨I.base.keep b o (I.ok.bs b o e).1 (I.ok.bs b o e).2 (I.ok.nofr e) (I.ok.noex b o e),I.base.free b o (I.ok.bs b o e).1 (I.ok.bs b o e).2 (I.ok.noex b o e)⟩
theorem Inv.bk(I:Inv X pins σ H s):∀ b o,X.base.get? b=some o->s.heap.get? b=some o:=λ b o e=>(I.bs b o e).1
theorem Inv.mod(I:Inv X pins σ H s):Mod X.K X.mg X.base:=I.ok.mod
theorem Inv.kIn(I:Inv X pins σ H s):X.K.In s.heap:=I.ok.mod.kin.keeps I.bk
theorem Inv.nolimit(I:Inv X pins σ H s):s.heap.NoLimit:=I.ok.mod.nolimit.keeps I.bk
theorem Inv.fr(I:Inv X pins σ H s):∃ m,Fr X.base X.env.locals s.heap m:=
 let ⟨m,hn,_⟩:=I.loc
 ⟨m,hn,I.bk,Nat.le_trans I.ok.bsz I.ok.above⟩
theorem Inv.lt(I:Inv X pins σ H s):X.env.locals < s.heap.objs.size:=let ⟨_,hn,_⟩:=I.loc;hn.lt
theorem Inv.sz(I:Inv X pins σ H s):X.s₀.heap.objs.size<=s.heap.objs.size:=Nat.le_trans I.ok.above (Nat.le_of_lt I.lt)
theorem Inv.nofs(I:Inv X pins σ H s)(h:s.heap.objs.size<=a):a∉X.fs:=λ hb=>by
 obtain ⟨_,o,ho,_⟩:=I.ok.funs.mem hb;exact absurd (Nat.lt_of_lt_of_le (Heap.lt_size ho) (Nat.le_trans I.sz h)) (Nat.lt_irrefl _)
theorem Inv.cne(I:Inv X pins σ H s):∀ x c,X.env.cells.lookup x=some c->c≠X.env.locals:=λ x c e z=>by
 obtain ⟨v,o,ho,hd⟩:=I.cell x c e;obtain ⟨m,⟨o',es,ep,ho',hd',_⟩,_⟩:=I.loc;rw [z,ho'] at ho;cases ho;rw [hd'] at hd;cases hd
theorem Inv.funs(I:Inv X pins σ H s):s.heap.FunFrames X.base X.outer:=by
 have all:∀ (l:List Env),(∀ b∈frs l,b∈X.fs)->X.s₀.heap.FunFrames X.base l->s.heap.FunFrames X.base l:=by
  intro l;induction l with
  | nil=>intro _ _;trivial
  | cons env r ih=>
   intro hs hl;obtain ⟨hk,⟨L,o,hf,hn,ho,hd⟩,hr⟩:=hl;have hL:L∈X.fs:=hs L (by unfold frs;rw [List.filterMap_cons,hf];exact b9);obtain ⟨sl,e⟩:=I.base.slot L o ho (I.ok.frf L hL) hL λ z=>I.ok.exfs L z hL;exact ⟨hk,⟨L,_,hf,hn,e,hd⟩,ih (λ b hb=>hs b (by unfold frs;rw [List.filterMap_cons,hf];exact bp _ hb)) hr⟩
 exact all X.outer (λ _ hb=>hb) I.ok.funs
theorem Inv.stack(I:Inv X pins σ H s):s.heap.FunFrames X.base X.stack:=by
 rcases I.ok.stk with e | ⟨e,hf⟩
 ·rw [e];exact I.funs
 ·rw [e];obtain ⟨m,hn,_⟩:=I.loc;refine .cons (by rw [I.ok.kind];decide) hf hn ?_ I.funs;exact Heap.get?_none_of_le (Nat.le_trans I.ok.bsz I.ok.above)
theorem Inv.stkSub(I:Inv X pins σ H s):∀ b∈frs X.stack,b∈X.env.locals::X.fs:=λ b hb=>by
 rcases I.ok.stk with e | ⟨e,hf⟩
 ·rw [e] at hb;exact bp _ hb
 ·rw [e] at hb;unfold frs at hb;rw [List.filterMap_cons,hf] at hb;exact hb
theorem Inv.stkFree(I:Inv X pins σ H s):∀ b∈frs X.stack,H b=none:=λ b hb=>by
 rcases al_mc.mp (I.stkSub b hb) with e | hb
 ·rw [e];exact I.free
 ·obtain ⟨_,o,ho,_⟩:=I.ok.funs.mem hb;exact I.base.free b o ho (I.ok.frf b hb) λ z=>I.ok.exfs b z hb
theorem Inv.step(I:Inv X pins σ H s)(hch:∀ b∈ch,(b∈X.ex\/X.s₀.heap.objs.size<=b)/\b≠X.env.locals/\(∀ x c,X.env.cells.lookup x=some c->c≠b)/\∀ p∈X.pn++pins,p.1≠b)(keep:∀ b o,b≠X.env.locals->b∉X.fs->b∉ch->s.heap.get? b=some o->H b=none->h'.get? b=some o)(slot:∀ b o,b≠X.env.locals->b∈X.fs->b∉ch->s.heap.get? b=some o->H b=none->∃ sl,h'.get? b=some { o with slots:=sl })(free:∀ b o,b∉ch->s.heap.get? b=some o->H b=none->H' b=none)(there:∀ b o,b∉ch->s.heap.get? b=some o->∃ o',h'.get? b=some o')(tups:∀ b xs,H b=some (.tup xs)->H' b=some (.tup xs))(frzs:∀ b o u,H b=some (.frz o u)->H' b=some (.frz o u))(tbls:∀ b ps,H b=some (.tbl ps)->∃ more,H' b=some (.tbl (ps++more)))(ns:∀ m,s.heap.Ns X.env.locals m->h'.Ns X.env.locals m)(hok:HOk X.prog X.w H' h')(hg:AllBare g'):
  Inv X pins σ H' { s with heap:=h',gens:=g',drawn:=d',toks:=t' }:=by
 have neL:∀ b o,X.s₀.heap.get? b=some o->b≠X.env.locals:=λ b o e=>Nat.ne_of_lt (Nat.lt_of_lt_of_le (Heap.lt_size e) I.ok.above);have neC:∀ b o,X.s₀.heap.get? b=some o->b∉X.ex->b∉ch:=λ b o e hx hb=>by
  rcases (hch b hb).1 with z | z
  ·exact hx z
  ·exact absurd (Nat.lt_of_lt_of_le (Heap.lt_size e) z) (Nat.lt_irrefl _)
 have cellK:∀ x c,X.env.cells.lookup x=some c->∀ v,s.heap.IsCell c v->h'.IsCell c v:=λ x c e v ⟨o,ho,hd⟩=>by
  have nch:c∉ch:=λ z=>(hch c z).2.2.1 x c e rfl;by_cases hc:c∈X.fs
  ·obtain ⟨sl,q⟩:=slot c o (I.cne x c e) hc nch ho (I.freeC x c e);exact ⟨_,q,hd⟩
  ·exact ⟨o,keep c o (I.cne x c e) hc nch ho (I.freeC x c e),hd⟩
 refine ⟨I.ok,I.os,hg,⟨λ b o e n hb hx=>?_,λ b o e n hb hx=>?_,λ b o e n hx=>?_,λ b o e hx=>?_,λ b xs e=>tups b xs (I.base.tups b xs e),λ b o xs e=>frzs b o xs (I.base.frzs b o xs e),λ b ps e=>?_⟩,?_,λ x c e=>?_,?_,λ x c e=>?_,λ p hp=>?_,hok,I.len⟩
 ·exact keep b o (neL b o e) hb (neC b o e hx) (I.base.keep b o e n hb hx) (I.base.free b o e n hx)
 ·obtain ⟨sl,e1⟩:=I.base.slot b o e n hb hx;obtain ⟨sl',e2⟩:=slot b _ (neL b o e) hb (neC b o e hx) e1 (I.base.free b o e n hx);exact ⟨sl',e2⟩
 ·obtain ⟨o',e1⟩:=I.base.there b o e hx;exact free b o' (neC b o e hx) e1 (I.base.free b o e n hx)
 ·obtain ⟨o',e1⟩:=I.base.there b o e hx;exact there b o' (neC b o e hx) e1
 ·obtain ⟨m1,e1⟩:=I.base.tbls b ps e;obtain ⟨m2,e2⟩:=tbls b _ e1;exact ⟨m1++m2,by rw [e2,Array.append_assoc]⟩
 ·obtain ⟨m,hn,hl⟩:=I.loc;refine ⟨m,ns m hn,λ i x v e1 e2 e3=>?_⟩;obtain ⟨u,r,l⟩:=hl i x v e1 e2 e3;refine ⟨u,r,?_⟩;rcases l with l | ⟨k,c,e,z⟩
  ·exact .inl l
  ·exact .inr ⟨k,c,e,cellK x c e _ z⟩
 ·obtain ⟨v,z⟩:=I.cell x c e;exact ⟨v,cellK x c e v z⟩
 ·obtain ⟨m,⟨o,_,_,ho,_⟩,_⟩:=I.loc;exact free _ o (λ z=>(hch _ z).2.1 rfl) ho I.free
 ·obtain ⟨v,o,ho,hd⟩:=I.cell x c e;exact free c o (λ z=>(hch c z).2.2.1 x c e rfl) ho (I.freeC x c e)
 ·obtain ⟨e,n,ne,nf,d⟩:=I.pin p hp;have nch:p.1∉ch:=λ z=>(hch p.1 z).2.2.2 p hp rfl;exact ⟨keep p.1 p.2 ne nf nch e n,free p.1 p.2 nch e n,ne,nf,d⟩
theorem Inv.un(I:Inv X pins σ H s)(u:Un X.fs [] H H' s.heap h')(hok:HOk X.prog X.w H' h'):Inv X pins σ H' { s with heap:=h',toks:=t' }:=by
 obtain ⟨m,⟨o,es,ep,ho,r⟩,_⟩:=id I.loc;obtain ⟨sl,hL⟩:=u.any ho I.free (by simp);exact I.step (g':=s.gens) (d':=s.drawn) (ch:=[]) (λ _ z=>nomatch z) (λ b o _ hb _ e n=>u.keep b o e n hb (by simp)) (λ b o _ hb _ e n=>u.slot b o e n hb (by simp)) (λ b o _ e n=>u.free b o e n (by simp)) (λ b o _ e=>u.there b o e (by simp)) u.tups u.frzs u.tbls (λ m' hm=>by
  obtain ⟨o',es',ep',ho',r'⟩:=hm;rw [ho] at ho';cases ho';exact ⟨_,es',ep',hL,r'⟩) hok I.bare
theorem Inv.call(I:Inv X pins σ H s)(u:Un (frs X.stack) ch H H' s.heap h')(hok:HOk X.prog X.w H' h')(hg:AllBare g')(hch:∀ b∈ch,(b∈X.ex\/X.s₀.heap.objs.size<=b)/\b≠X.env.locals/\(∀ x c,X.env.cells.lookup x=some c->c≠b)/\∀ p∈X.pn++pins,p.1≠b):
  Inv X pins σ H' { s with heap:=h',gens:=g',drawn:=d',toks:=t' }:=by
 obtain ⟨m,⟨o,es,ep,ho,r⟩,_⟩:=id I.loc;obtain ⟨sl,hL⟩:=u.any ho I.free λ z=>(hch _ z).2.1 rfl;exact I.step (ch:=ch) hch (λ b o hL hb hc e n=>u.keep b o e n (λ z=>(al_mc.mp (I.stkSub b z)).elim hL hb) hc) (λ b o _ _ hc e n=>u.any e n hc) (λ b o hc e n=>u.free b o e n hc) (λ b o hc e=>u.there b o e hc) u.tups u.frzs u.tbls (λ m' hm=>by
  obtain ⟨o',es',ep',ho',r'⟩:=hm;rw [ho] at ho';cases ho';exact ⟨_,es',ep',hL,r'⟩) hok hg
theorem Inv.turned(I:Inv X pins σ H s)(k:∀ b o,b≠it->s.heap.get? b=some o->h'.get? b=some o)(hn:H it=none)(hL:it≠X.env.locals)(h1:it∈X.ex\/X.s₀.heap.objs.size<=it)(h2:∀ x c,X.env.cells.lookup x=some c->c≠it)(h3:∀ p∈X.pn++pins,p.1≠it):Inv X pins σ H { s with heap:=h',toks:=t' }:=by
 have nit:∀ b u,H b=some u->b≠it:=λ b u e z=>by rw [z,hn] at e;cases e
 refine I.step (g':=s.gens) (d':=s.drawn) (ch:=[it]) (λ b hb=>?_) (λ b o _ _ hc e _=>k b o (λ z=>hc (by simp [z])) e) (λ b o _ _ hc e _=>⟨o.slots,k b o (λ z=>hc (by simp [z])) e⟩) (λ _ _ _ _ n=>n)
  (λ b o hc e=>⟨o,k b o (λ z=>hc (by simp [z])) e⟩) (λ _ _ e=>e) (λ _ _ _ e=>e) (λ b ps e=>⟨#[],by rw [e];simp⟩) (λ m hm=>?_) (λ b u e=>?_) I.bare
 ·have e:b=it:=by simpa using hb
  subst e;exact ⟨h1,hL,h2,h3⟩
 ·obtain ⟨o,es,ep,ho,r⟩:=hm;exact ⟨o,es,ep,k _ o (Ne.symm hL) ho,r⟩
 ·refine (I.hok b u e).stay (λ c v hc q=>k c v ?_ q) (λ _ q=>q) λ _ _ q=>q;rcases hc with z | z
  ·rw [z];exact nit b u e
  ·exact nit c _ z
theorem Inv.tok(I:Inv X pins σ H s)(t:Nat):Inv X pins σ H { s with toks:=t }:=I.un (h':=s.heap) (t':=t) Un.refl I.hok
theorem Inv.kept{t':Nat}(I:Inv X pins σ H s)(k:∀ b u,s.heap.get? b=some u->h'.get? b=some u):Inv X pins σ H { s with heap:=h',toks:=t' }:=I.un (Un.kept k) (I.hok.kept k)
theorem Inv.laid{a:Addr}{o:HO}{t':Nat}(I:Inv X pins σ H s)(k:∀ b u,s.heap.get? b=some u->h'.get? b=some u)(hp:s.heap.objs.size<=a)(new:ObjOk X.prog X.w (upd H a o) h' a o):
  Inv X pins σ (upd H a o) { s with heap:=h',toks:=t' }:=I.un (Un.laid k hp (I.hok.fresh hp)) (I.hok.laid k hp new)
theorem Inv.write{x e:Addr}{o:HO}{t':Nat}(I:Inv X pins σ H s)(mu:Mut (H x))(he:e=x\/H e=some (.own x))(k:∀ b u,b≠e->s.heap.get? b=some u->h'.get? b=some u)(heo:∃ u,h'.get? e=some u)(new:ObjOk X.prog X.w (upd H x o) h' x o):Inv X pins σ (upd H x o) { s with heap:=h',toks:=t' }:=I.un (Un.write mu he k heo) (I.hok.write mu he k heo new)
theorem Inv.weak{σ':List (Option V)}(I:Inv X pins σ H s)(hl:σ'.length=σ.length)(w:∀ (i:Nat) v,σ'[i]?=some (some v)->σ[i]?=some (some v)):Inv X pins σ' H s:=
 ⟨I.ok,I.os,I.bare,I.base,let ⟨m,hn,hl'⟩:=I.loc;⟨m,hn,λ i x v e1 e2 e3=>hl' i x v e1 (w i v e2) e3⟩,I.cell,I.free,I.freeC,I.pin,I.hok,hl.trans I.len⟩
theorem Inv.pins_of(I:Inv X pins σ H s)(h:∀ p∈pins',s.heap.get? p.1=some p.2/\H p.1=none/\p.1≠X.env.locals/\p.1∉X.fs/\∀ v,p.2.data≠.cell v):Inv X pins' σ H s:=
 ⟨I.ok,I.os,I.bare,I.base,I.loc,I.cell,I.free,I.freeC,λ p hp=>(al_mp.mp hp).elim (λ z=>I.pin p (List.mem_append_left _ z)) (h p),I.hok,I.len⟩
theorem eU(hN:N.Nodup)(a:N[i]?=some x)(b:N[j]?=some x):i=j:=by
 obtain ⟨h1,e1⟩:=al_gs.mp a;obtain ⟨h2,e2⟩:=al_gs.mp b;exact (List.getElem_inj hN).mp (e1.trans e2.symm)
theorem vE{v:V}{Q:Unit->Shared->Prop}(I:Inv X pins σ H s)(hN:X.N.Nodup)(hi:X.N[i]?=some x)(hx:Loc X.env.scope x)(r:RelV v u)(h:∀ s',Inv X pins (σ.set i (some v)) H s'->(∃ a,Heap.SameBut a s.heap s'.heap/\(a=X.env.locals\/X.env.cells.lookup x=some a))->Q () s')(hf:X.fn x=true\/X.env.scope.names.lookup x=some .local:=by first | exact .inl rfl | exact .inr rfl | assumption):wpAny M A (storeName X.env x u) Q E s:=by
 obtain ⟨m,hn,hl⟩:=id I.loc;have hcls:(X.env.scope.kind == .class || (X.env.scope.kind == .module && X.env.locals != X.env.globals))=false:=by rw [I.ok.kind];rfl
 have hiσ:i < σ.length:=by rw [I.len];exact (al_gs.mp hi).1
 have cne:=I.cne;have tracked:∀ {a:Addr} {h':Heap},(∃ o,s.heap.get? a=some o/\H a=none)->Heap.SameBut a s.heap h'->HOk X.prog X.w H h':=λ {a h'} ha hs b ob e=>by
  obtain ⟨_,_,hfree⟩:=ha;refine (I.hok b ob e).stay (λ c w' hc q=>(hs.2 c ?_).trans q) (λ _ q=>q) λ _ _ q=>q;rintro rfl;rcases hc with rfl | hc
  ·rw [hfree] at e;cases e
  ·rw [hfree] at hc;cases hc
 rcases hx with hk | hk
 ·refine wpAny_storeName_local hk hn (λ h' hn' hs=>?_) hcls;obtain ⟨oL,_,_,hoL,_⟩:=id hn;refine h _ ⟨I.ok,I.os,I.bare,⟨λ b o e n hb hx=>?_,λ b o e n hb hx=>?_,I.base.free,λ b o e hx=>?_,I.base.tups,I.base.frzs,I.base.tbls⟩,⟨_,hn',λ j y v' e1 e2 e3=>?_⟩,λ y c e=>?_,I.free,I.freeC,λ p hp=>?_,tracked ⟨oL,hoL,I.free⟩ hs,by simpa using I.len⟩ ⟨_,hs,.inl rfl⟩
  ·exact (hs.2 b (Nat.ne_of_lt (Nat.lt_of_lt_of_le (Heap.lt_size e) I.ok.above))).trans (I.base.keep b o e n hb hx)
  ·obtain ⟨sl,e1⟩:=I.base.slot b o e n hb hx;exact ⟨sl,(hs.2 b (Nat.ne_of_lt (Nat.lt_of_lt_of_le (Heap.lt_size e) I.ok.above))).trans e1⟩
  ·obtain ⟨o',e1⟩:=I.base.there b o e hx;exact ⟨o',(hs.2 b (Nat.ne_of_lt (Nat.lt_of_lt_of_le (Heap.lt_size e) I.ok.above))).trans e1⟩
  ·by_cases hj:j=i
   ·subst hj;rw [hi] at e1;cases e1;rw [List.getElem?_set_self hiσ] at e2;cases e2;exact ⟨u,r,.inl ⟨hk,by simp⟩⟩
   ·rw [List.getElem?_set_ne (Ne.symm hj)] at e2;obtain ⟨u',r',q⟩:=hl j y v' e1 e2 e3;refine ⟨u',r',?_⟩;rcases q with ⟨k,e⟩ | ⟨k,c,e,z⟩
    ·refine .inl ⟨k,?_⟩;have:y≠x:=λ e=>hj (eU hN e1 (e ▸ hi));simp [this,e]
    ·exact .inr ⟨k,c,e,z.sameBut hs (cne y c e)⟩
  ·obtain ⟨w',z⟩:=I.cell y c e;exact ⟨w',z.sameBut hs (cne y c e)⟩
  ·obtain ⟨e,n,ne,nf,d⟩:=I.pin p hp;exact ⟨(hs.2 p.1 ne).trans e,n,ne,nf,d⟩
 ·have hfn:X.fn x=true:=by
   rcases hf with z | z
   ·exact z
   ·rw [z] at hk;cases hk
  obtain ⟨c,hc⟩:=I.ok.has x (.inl hk);obtain ⟨w',z⟩:=I.cell x c hc;refine wpAny_storeName_cell I.ok.kind hk hc z (λ h' hc' hs=>?_);obtain ⟨oc,hoc,hocd⟩:=id z;refine h { s with heap:=h' } ⟨I.ok,I.os,I.bare,⟨λ b o e n hb hx=>?_,λ b o e n hb hx=>?_,I.base.free,λ b o e hx=>?_,I.base.tups,I.base.frzs,I.base.tbls⟩,⟨m,hn.sameBut hs (Ne.symm (cne x c hc)),λ j y v' e1 e2 e3=>?_⟩,λ y c' e=>?_,I.free,I.freeC,λ p hp=>?_,tracked ⟨oc,hoc,I.freeC x c hc⟩ hs,by simpa using I.len⟩ ⟨c,hs,.inr hc⟩
  ·exact (hs.2 b (Nat.ne_of_lt (Nat.lt_of_lt_of_le (Heap.lt_size e) (I.ok.cab x c hfn hc)))).trans (I.base.keep b o e n hb hx)
  ·obtain ⟨sl,e1⟩:=I.base.slot b o e n hb hx;exact ⟨sl,(hs.2 b (Nat.ne_of_lt (Nat.lt_of_lt_of_le (Heap.lt_size e) (I.ok.cab x c hfn hc)))).trans e1⟩
  ·obtain ⟨o',e1⟩:=I.base.there b o e hx;exact ⟨o',(hs.2 b (Nat.ne_of_lt (Nat.lt_of_lt_of_le (Heap.lt_size e) (I.ok.cab x c hfn hc)))).trans e1⟩
  ·by_cases hj:j=i
   ·subst hj;rw [hi] at e1;cases e1;rw [List.getElem?_set_self hiσ] at e2;cases e2;exact ⟨u,r,.inr ⟨.inl hk,c,hc,hc'⟩⟩
   ·rw [List.getElem?_set_ne (Ne.symm hj)] at e2;obtain ⟨u',r',q⟩:=hl j y v' e1 e2 e3;refine ⟨u',r',?_⟩;rcases q with q | ⟨k,c',e,z'⟩
    ·exact .inl q
    ·refine .inr ⟨k,c',e,z'.sameBut hs ?_⟩;rintro rfl;exact hj (eU hN e1 (I.ok.inj _ _ _ e hc ▸ hi))
  ·by_cases hcc:c'=c
   ·subst hcc;exact ⟨_,hc'⟩
   ·obtain ⟨w2,z2⟩:=I.cell y c' e;exact ⟨w2,z2.sameBut hs hcc⟩
  ·obtain ⟨e,n,ne,nf,d⟩:=I.pin p hp;refine ⟨(hs.2 p.1 ?_).trans e,n,ne,nf,d⟩;intro q;rw [q,hoc] at e;have q':oc=p.2:=Option.some.inj e;exact d w' (by rw [← q'];exact hocd)
theorem jq{v:V}{Q:Unit->Shared->Prop}(I:Inv X pins σ H s)(hN:X.N.Nodup)(hi:X.N[i]?=some x)(hx:Loc X.env.scope x)(r:RelV v u)(h:∀ s',Inv X pins (σ.set i (some v)) H s'->Q () s')(hf:X.fn x=true\/X.env.scope.names.lookup x=some .local:=by first | exact .inl rfl | exact .inr rfl | assumption):wpAny M A (storeName X.env x u) Q E s:=
 vE I hN hi hx r (λ s' I' _=>h s' I') hf
theorem Inv.call'(I:Inv X pins σ H s)(ho:s'.os=s.os)(u:Un (frs X.stack) ch H H' s.heap s'.heap)(hok:HOk X.prog X.w H' s'.heap)(hg:AllBare s'.gens)(hch:∀ b∈ch,(b∈X.ex\/X.s₀.heap.objs.size<=b)/\b≠X.env.locals/\(∀ x c,X.env.cells.lookup x=some c->c≠b)/\∀ p∈X.pn++pins,p.1≠b):Inv X pins σ H' s':=by
 obtain ⟨h',g',d',t',o'⟩:=s';have e:o'=s.os:=ho;subst e;exact I.call (g':=g') (t':=t') (d':=d') u hok hg hch
end
noncomputable abbrev XK:=Value->Option Addr->Hp->Prop
noncomputable abbrev St:=List (Option V)
variable {σ:St}
noncomputable abbrev VK:=V->Hp->Prop
variable {r:V->List V->Hp->VK->Prop}
noncomputable abbrev TE:=St->Hp->VK->Prop
variable {ta td te ti tl to tv:TE} {trs:List (TE × TE)}
noncomputable abbrev TT:=St->Hp->(Bool->Hp->Prop)->Prop
variable {tc:TT}
noncomputable abbrev TA:=St->Hp->(List V->Hp->Prop)->Prop
structure eJ where
 nx:St->Hp->Prop
 rt:VK
 bk:St->Hp->Prop:=λ _ _=>False
 ct:St->Hp->Prop:=λ _ _=>False
variable {D:eJ}
noncomputable abbrev TS:=eJ->St->Hp->Prop
variable {tb:TS}
noncomputable def EP(X:Cx)(pins:List (Addr × Obj))(σ:St)(Q:VK)(u:Value)(s':Shared):Prop:=∃ v H',Inv X pins σ H' s'/\RelV v u/\Q v H'
noncomputable def TP(X:Cx)(pins:List (Addr × Obj))(σ:St)(Q:Bool->Hp->Prop)(b:Bool)(s':Shared):Prop:=∃ H',Inv X pins σ H' s'/\Q b H'
noncomputable def AP(X:Cx)(pins:List (Addr × Obj))(σ:St)(Q:List V->Hp->Prop)(us:List Value)(s':Shared):Prop:=∃ vs H',Inv X pins σ H' s'/\Vals vs us/\Q vs H'
noncomputable def SP(X:Cx)(pins:List (Addr × Obj))(D:eJ)(f:Flow)(s':Shared):Prop:=
 match f with
 | .next=>∃ σ' H',Inv X pins σ' H' s'/\D.nx σ' H'
 | .brk=>∃ σ' H',Inv X pins σ' H' s'/\D.bk σ' H'
 | .cont=>∃ σ' H',Inv X pins σ' H' s'/\D.ct σ' H'
 | .ret u=>∃ v σ' H',Inv X pins σ' H' s'/\RelV v u/\D.rt v H'
noncomputable def PE(X:Cx)(e:Expr)(t:TE):Prop:=
 ∀ (pins:List (Addr × Obj)) (s:Shared) (σ:St) (H:Hp) (Q:VK),Inv X pins σ H s->t σ H Q->wpAny (model X.prog X.w) X.A (eval e X.env) (EP X pins σ Q) X.xe s
noncomputable def PT(X:Cx)(e:Expr)(t:TT):Prop:=
 ∀ (pins:List (Addr × Obj)) (s:Shared) (σ:St) (H:Hp) (Q:Bool->Hp->Prop),Inv X pins σ H s->t σ H Q->wpAny (model X.prog X.w) X.A (isTrue e X.env (eval e X.env)) (TP X pins σ Q) X.xe s
noncomputable def PW(X:Cx)(e:Expr)(t:TT):Prop:=
 ∀ (whole:Sem Value) (pins:List (Addr × Obj)) (s:Shared) (σ:St) (H:Hp) (Q:Bool->Hp->Prop),Inv X pins σ H s->t σ H Q->wpAny (model X.prog X.w) X.A (isTrue e X.env whole) (TP X pins σ Q) X.xe s
theorem PW.pt{t:TT}(h:PW X e t):PT X e t:=h _
noncomputable def PA(X:Cx)(es:List Expr)(t:TA):Prop:=
 ∀ (pos:Pos) (pins:List (Addr × Obj)) (s:Shared) (σ:St) (H:Hp) (Q:List V->Hp->Prop),Inv X pins σ H s->t σ H Q->wpAny (model X.prog X.w) X.A (spliced (backTo pos (starEach es X.env))) (AP X pins σ Q) X.xe s
noncomputable def PS(X:Cx)(st:Stmt)(t:TS):Prop:=
 ∀ (pins:List (Addr × Obj)) (s:Shared) (σ:St) (H:Hp) (D:eJ),Inv X pins σ H s->t D σ H->wpAny (model X.prog X.w) X.A (exec st X.env) (SP X pins D) X.xe s
noncomputable def PSs(X:Cx)(st:List Stmt)(t:TS):Prop:=
 ∀ (pins:List (Addr × Obj)) (s:Shared) (σ:St) (H:Hp) (D:eJ),Inv X pins σ H s->t D σ H->wpAny (model X.prog X.w) X.A (execs st X.env) (SP X pins D) X.xe s
theorem thn{t:Sem α}{Q Q':α->Shared->Prop}(h:wpAny M A t Q E s)(hQ:∀ a s,Q a s->Q' a s):wpAny M A t Q' E s:=wpAny_mono h hQ λ _ _ x=>x
section
theorem bin{a b:Expr}{tb:TE}(ha:PE X a ta)(hb:PE X b tb){R:V->V->Hp->Prop}(I:Inv X pins σ H s)(h:ta σ H λ x H1=>tb σ H1 λ y H2=>R x y H2){Q:α->Shared->Prop}{f:Value->Value->Sem α}(hf:∀ v u s2 x y H2,Inv X pins σ H2 s2->RelV x v->RelV y u->R x y H2->wpAny (model X.prog X.w) X.A (f v u) Q X.xe s2):
    wpAny (model X.prog X.w) X.A (eval a X.env) (λ v s₁=>wpAny (model X.prog X.w) X.A (eval b X.env) (λ u s₂=>wpAny (model X.prog X.w) X.A (f v u) Q X.xe s₂) X.xe s₁) X.xe s:=by
  refine thn (ha pins s σ H _ I h) λ v s1 ⟨x,H1,I1,r1,q1⟩=>?_;refine thn (hb pins s1 σ H1 _ I1 q1) λ u s2 ⟨y,H2,I2,r2,q2⟩=>?_;exact hf v u s2 x y H2 I2 r1 r2 q2
noncomputable def b8(i:Nat):TE:=λ σ H Q=>∃ v,σ[i]?=some (some v)/\Q v H
noncomputable def tC(v:V):TE:=λ _ H Q=>Q v H
theorem zdZ(hN:X.N[i]?=some x)(hv:Vis X.env.scope x)(hd:(x == ("__debug__" : Str))=false:=by decide)(hcd:(x == ("__classdict__" : Str))=false:=by decide):PE X (.Name x pos) (b8 i):=by
 intro pins s σ H Q I h;obtain ⟨v,e,h⟩:=h;obtain ⟨m,hn,hl⟩:=I.loc;obtain ⟨u,r,l⟩:=hl i x v hN e hv;have fin:EP X pins σ Q u s:=⟨v,H,I,r,h⟩
 rcases l with ⟨hk,hm⟩ | ⟨hk,c,hc,hcell⟩
 ·exact wpAny_Name (wpAny_loadName_local I.ok.kind hk hn hm fin) hd
 ·rcases hk with hk | hk
  ·exact wpAny_Name (wpAny_loadName_cell I.ok.kind hk hc hcell fin) hd
  ·exact wpAny_Name (wpAny_loadName_free I.ok.kind hk hc hcell fin hcd) hd
theorem ae{i j pos}:PE X (.Constant (.int i) j pos) (tC (.int i)):=λ _ _ _ H _ I h=>wpAny_Constant_int ⟨.int i,H,I.tok _,⟨_,rfl⟩,h⟩
theorem eV{b j pos}:PE X (.Constant (.bool b) j pos) (tC (.bl b)):=λ _ _ _ H _ I h=>Constant_bool ⟨.bl b,H,I,rfl,h⟩
theorem bN{j pos}:PE X (.Constant .none j pos) (tC .non):=λ _ _ _ H _ I h=>Constant_none ⟨.non,H,I,rfl,h⟩
theorem aD{x j pos}:PE X (.Constant (.str x) j pos) (tC (.str x)):=λ _ _ _ H _ I h=>Calls.Constant_str ⟨.str x,H,I.tok _,⟨_,rfl⟩,h⟩
noncomputable def Gl(X:Cx)(x:Str):Prop:=X.env.kindOf x=some .globalImplicit
theorem eD(I:Inv X pins σ H s)(hg:Gl X x)(hm:X.mg x=some u)(h:Q u s)(hd:(x == ("__debug__" : Str))=false:=by decide):wpAny (model X.prog X.w) X.A (eval (.Name x pos) X.env) Q E s:=
 Calls.Name_function_global I.ok.kind hg (Calls.loadGlobal_global (by rw [I.ok.glob];exact I.mod.glob.keeps I.bk) hm h) hd
theorem dJ(I:Inv X pins σ H s)(hg:Gl X x)(hm:X.mg x=none)(hv:bootBuiltins x=some u)(h:Q u s)(hn:x ≠ "__name__" := by decide)(hd:(x == ("__debug__" : Str))=false:=by decide):wpAny (model X.prog X.w) X.A (eval (.Name x pos) X.env) Q E s:=by
 obtain ⟨mb,h1,h2⟩:=I.mod.blt;exact Calls.Name_function_global I.ok.kind hg (Calls.loadGlobal_builtin (by rw [I.ok.glob];exact I.mod.glob.keeps I.bk) hm (by rw [I.ok.blt];exact h1.keeps I.bk) ((h2 x hn).trans hv) h) hd
theorem tU{v:V}(hg:Gl X x)(hm:X.mg x=some u)(r:RelV v u)(hd:(x == ("__debug__" : Str))=false:=by decide):PE X (.Name x pos) (tC v):=
 λ _ _ _ H _ I h=>eD I hg hm ⟨v,H,I,r,h⟩ hd
theorem zdO{v:V}(hg:Gl X x)(hm:X.mg x=none)(hv:bootBuiltins x=some u)(r:RelV v u)(hn:x ≠ "__name__" := by decide)(hd:(x == ("__debug__" : Str))=false:=by decide):PE X (.Name x pos) (tC v):=
 λ _ _ _ H _ I h=>dJ I hg hm hv ⟨v,H,I,r,h⟩ hn hd
variable {a b:Expr} {tb:TE}
noncomputable def PC(X:Cx)(op:CmpOp)(a b:Expr)(t:TE):Prop:=
 ∀ (pins:List (Addr × Obj)) (s:Shared) (σ:St) (H:Hp) (Q:VK),Inv X pins σ H s->t σ H Q->
  wpAny (model X.prog X.w) X.A (eval a X.env) (λ v s₁=>wpAny (model X.prog X.w) X.A (eval b X.env) (λ u s₂=>wpAny (model X.prog X.w) X.A (compareOp op v u) (EP X pins σ Q) X.xe s₂) X.xe s₁) X.xe s
theorem tG(b:Expr)(h:op≠.In)(h2:op≠.NotIn):behindInMarks op b=false:=by
 have e1:(op == CmpOp.In)=false:=by cases op <;> first | rfl | exact absurd rfl h
 have e2:(op == CmpOp.NotIn)=false:=by cases op <;> first | rfl | exact absurd rfl h2
 cases b <;> simp [behindInMarks,e1,e2]
noncomputable def tB(t:TE):TT:=λ σ H Q=>t σ H λ x H1=>∃ c,x = .bl c/\Q c H1
theorem zdR{t:TE}(h:PC X op a b t)(h1:behindInMarks op b=false:=by first | exact tG _ (by decide) (by decide) | rfl):PE X (.Compare a [op] [b] pos) t:=λ pins s σ H Q I hw=>wpAny_Compare1 (h pins s σ H Q I hw) h1
theorem zek{t:TE}(h:PC X op a b t)(h1:behindInMarks op b=false:=by first | exact tG _ (by decide) (by decide) | rfl):PT X (.Compare a [op] [b] pos) (tB t):=by
 intro pins s σ H Q I hw;refine wpAny_isTrue_Compare1 (thn (h pins s σ H _ I hw) λ v s1 h1=>thn h1 λ u s2 h2=>thn h2 λ c s3 ⟨x,H1,I1,r1,q1⟩=>?_) h1;obtain ⟨d,rfl,q⟩:=q1;cases r1;exact wpAny_truthy_bool ⟨H1,I1,q⟩
theorem c9{t:TE}(h:PE X e t)(he:∀ whole,isTrue e X.env whole=(do let v ← whole;standAt e.pos;holding [v] (truthy v)):=by intro _;rfl):PT X e (tB t):=by
 intro pins s σ H Q I hw;refine isTrue_plain (thn (h pins s σ H _ I hw) λ v s1 ⟨x,H1,I1,r1,q1⟩=>?_) (he _);obtain ⟨d,rfl,q⟩:=q1;cases r1;exact wpAny_truthy_bool ⟨H1,I1,q⟩
variable {tA tB':TT} {rest:List Expr}
noncomputable def vG(t u:TT):TT:=λ σ H Q=>t σ H λ c H1=>if c=true then u σ H1 Q else Q false H1
noncomputable def tOr(t u:TT):TT:=λ σ H Q=>t σ H λ c H1=>if c=true then Q true H1 else u σ H1 Q
noncomputable def vL(t:TT):TT:=λ σ H Q=>t σ H λ c H1=>Q (!c) H1
theorem gb(ha:PT X a tA):PW X (.BoolOp .And [a] pos) tA:=by
 intro wh pins s σ H Q I h;refine isTrue_and (thn (ha pins s σ H Q I h) λ c s1 e=>?_);cases c with
 | true=>exact isTrue_and_nil e
 | false=>exact e
theorem fL(ha:PT X a tA):PW X (.BoolOp .Or [a] pos) tA:=by
 intro wh pins s σ H Q I h;refine isTrue_or (thn (ha pins s σ H Q I h) λ c s1 e=>?_);cases c with
 | false=>exact isTrue_or_nil e
 | true=>exact e
theorem eY(ha:PT X a tA)(hb:PW X (.BoolOp .And (b::rest) pos) tB'):PW X (.BoolOp .And (a::b::rest) pos) (vG tA tB'):=by
 intro wh pins s σ H Q I h;refine isTrue_and (thn (ha pins s σ H _ I h) λ c s1 ⟨H1,I1,q1⟩=>?_);cases c with
 | true=>exact hb wh pins s1 σ H1 Q I1 q1
 | false=>exact ⟨H1,I1,q1⟩
theorem eZ(ha:PT X a tA)(hb:PW X (.BoolOp .Or (b::rest) pos) tB'):PW X (.BoolOp .Or (a::b::rest) pos) (tOr tA tB'):=by
 intro wh pins s σ H Q I h;refine isTrue_or (thn (ha pins s σ H _ I h) λ c s1 ⟨H1,I1,q1⟩=>?_);cases c with
 | true=>exact ⟨H1,I1,q1⟩
 | false=>exact hb wh pins s1 σ H1 Q I1 q1
theorem ef(ha:PT X a tA):PT X (.UnaryOp .Not a pos) (vL tA):=by
 intro pins s σ H Q I h;exact isTrue_not (ha pins s σ H (λ c H1=>Q (!c) H1) I h)
noncomputable def zfY(ta tb:TE):TE:=λ σ H Q=>ta σ H λ x H1=>∃ c,x = .bl c/\if c=true then tb σ H1 Q else Q (.bl false) H1
noncomputable def zgi(ta tb:TE):TE:=λ σ H Q=>ta σ H λ x H1=>∃ c,x = .bl c/\if c=true then Q (.bl true) H1 else tb σ H1 Q
noncomputable def zgh(ta:TE):TE:=λ σ H Q=>ta σ H λ x H1=>∃ c,x = .bl c/\Q (.bl (!c)) H1
theorem iw{op}{t:TE}(h:PE X a t):PE X (.BoolOp op [a] pos) t:=λ pins s σ H Q I hw=>BoolOp_one (h pins s σ H Q I hw)
theorem ke(ha:PE X a ta)(hb:PE X (.BoolOp .And (b::rest) pos) tb):PE X (.BoolOp .And (a::b::rest) pos) (zfY ta tb):=by
 intro pins s σ H Q I h;refine BoolOp_and (thn (ha pins s σ H _ I h) λ v s1 ⟨x,H1,I1,r1,q1⟩=>?_);obtain ⟨c,rfl,q1⟩:=q1;cases r1;refine wpAny_truthy_bool ?_;cases c with
 | true=>exact hb pins s1 σ H1 Q I1 q1
 | false=>exact ⟨.bl false,H1,I1,rfl,q1⟩
theorem tZ(ha:PE X a ta)(hb:PE X (.BoolOp .Or (b::rest) pos) tb):PE X (.BoolOp .Or (a::b::rest) pos) (zgi ta tb):=by
 intro pins s σ H Q I h;refine BoolOp_or (thn (ha pins s σ H _ I h) λ v s1 ⟨x,H1,I1,r1,q1⟩=>?_);obtain ⟨c,rfl,q1⟩:=q1;cases r1;refine wpAny_truthy_bool ?_;cases c with
 | false=>exact hb pins s1 σ H1 Q I1 q1
 | true=>exact ⟨.bl true,H1,I1,rfl,q1⟩
theorem tY(ha:PE X a ta):PE X (.UnaryOp .Not a pos) (zgh ta):=by
 intro pins s σ H Q I h;refine UnaryOp_ (thn (ha pins s σ H _ I h) λ v s1 ⟨x,H1,I1,r1,q1⟩=>?_);obtain ⟨c,rfl,q1⟩:=q1;cases r1;exact not_of (wpAny_truthy_bool ⟨.bl (!c),H1,I1,rfl,q1⟩)
noncomputable def tIf(t:TT)(ta tb:TE):TE:=λ σ H Q=>t σ H λ c H1=>if c=true then ta σ H1 Q else tb σ H1 Q
theorem dj{c:Expr}(hc:PT X c tA)(ha:PE X a ta)(hb:PE X b tb):PE X (.IfExp c a b pos) (tIf tA ta tb):=by
 intro pins s σ H Q I h;refine wpAny_IfExp (thn (hc pins s σ H _ I h) λ d s1 ⟨H1,I1,q1⟩=>?_);cases d with
 | true=>exact ha pins s1 σ H1 Q I1 q1
 | false=>exact hb pins s1 σ H1 Q I1 q1
end
noncomputable def SqL(K:W.Frag)(H:Hp)(a:Addr)(xs:List V):Prop:=
 Rd H a (.lst xs)\/
  ∃ (o:Obj) (its:Array Value) (n:Nat),K.lookup a=some o/\o.cls = .type "list" /\ o.dict=none/\o.data = .seq its n/\its.size<=sizeLine/\Vals xs its.toList
noncomputable def SqT(K:W.Frag)(H:Hp)(a:Addr)(xs:List V):Prop:=
 Rd H a (.tup xs)\/
  ∃ (o:Obj) (its:Array Value) (n:Nat),K.lookup a=some o/\o.cls = .type "tuple" /\ o.data = .seq its n/\its.size<=sizeLine/\Vals xs its.toList
noncomputable def qr:Value->Option V
 | .none=>some .non
 | .bool b=>some (.bl b)
 | .int i _=>some (.int i)
 | .str x _=>some (.str x)
 | .bytes b _=>some (.byt b)
 | .float b _=>some (.flt b)
 | .ref a=>some (.ref a)
 | .type n=>some (.ty n)
 | _=>none
theorem RelV.abs{x:V}(r:RelV x u):qr u=some x:=by
 cases x with
 | non=>cases r;rfl
 | bl _=>cases r;rfl
 | int _=>obtain ⟨t,rfl⟩:=r;rfl
 | str _=>obtain ⟨t,rfl⟩:=r;rfl
 | byt _=>obtain ⟨t,rfl⟩:=r;rfl
 | flt _=>obtain ⟨t,rfl⟩:=r;rfl
 | ref _=>cases r;rfl
 | ty _=>cases r;rfl
theorem RelV.inj{x y:V}{u:Value}(r:RelV x u)(q:RelV y u):x=y:=Option.some.inj (r.abs.symm.trans q.abs)
theorem Vals.inj:∀ {xs ys:List V} {us:List Value},Vals xs us->Vals ys us->xs=ys
 | _,_,_,.nil,.nil=>rfl
 | _,_,_,.cons r t,.cons r' t'=>by rw [r.inj r',Vals.inj t t']
theorem SqL.of(h:H a=some (.lst xs)):SqL K H a xs:=.inl (.inl h)
theorem SqT.of(h:H a=some (.tup xs)):SqT K H a xs:=.inl (.inl h)
theorem Inv.list(I:Inv X pins σ H s)(h:SqL X.K H a xs):∃ its:List Value,Vals xs its/\PlainL s.heap a its.toArray/\xs.length<=sizeLine:=by
 rcases h with h | ⟨o,its,n,hk,hc,hd,hs,hz,r⟩
 ·obtain ⟨z,its,n,r,e⟩:=h.ok I.hok;exact ⟨its,r,⟨_,n,e,rfl,rfl,rfl⟩,z⟩
 ·refine ⟨its.toList,r,⟨o,n,I.kIn a o hk,hc,hd,by simpa using hs⟩,?_⟩;have e:=r.length;simp only [Array.length_toList] at e;omega
theorem Inv.tuple(I:Inv X pins σ H s)(h:SqT X.K H a xs):∃ its:List Value,Vals xs its/\IsTup s.heap a its.toArray/\xs.length<=sizeLine:=by
 rcases h with h | ⟨o,its,n,hk,hc,hs,hz,r⟩
 ·obtain ⟨z,its,r,p⟩:=h.ok I.hok;exact ⟨its,r,p,z⟩
 ·refine ⟨its.toList,r,⟨o,I.kIn a o hk,hc,n,by simpa using hs⟩,?_⟩;have e:=r.length;simp only [Array.length_toList] at e;omega
theorem Inv.list_inj(I:Inv X pins σ H s)(h:SqL X.K H a xs)(h':SqL X.K H a ys):xs=ys:=by
 obtain ⟨its,r,⟨o,n,e,_,_,d⟩,_⟩:=I.list h;obtain ⟨its',r',⟨o',n',e',_,_,d'⟩,_⟩:=I.list h';rw [e] at e';cases e';rw [d] at d';injection d' with d1 _
 have:its=its':=by simpa using congrArg Array.toList d1
 subst this;exact r.inj r'
theorem Inv.tuple_inj(I:Inv X pins σ H s)(h:SqT X.K H a xs)(h':SqT X.K H a ys):xs=ys:=by
 obtain ⟨its,r,⟨o,e,_,n,d⟩,_⟩:=I.tuple h;obtain ⟨its',r',⟨o',e',_,n',d'⟩,_⟩:=I.tuple h';rw [e] at e';cases e';rw [d] at d';injection d' with d1 _
 have:its=its':=by simpa using congrArg Array.toList d1
 subst this;exact r.inj r'
noncomputable abbrev Cx.wish(X:Cx)(E:Value->Shared->Prop):Cx:={ X with xe:=E }
noncomputable abbrev Cx.nox(X:Cx):Cx:=X.wish λ _ _=>False
theorem Cx.Ok.wish(ok:X.Ok)(E:Value->Shared->Prop):(X.wish E).Ok:=
 ⟨ok.mod,ok.kind,ok.glob,ok.blt,ok.above,ok.inj,ok.has,ok.cab,ok.hd,ok.frames,ok.stk,ok.exf,ok.bs,ok.bsz,ok.noex,ok.exfs,ok.funs,ok.frf⟩
theorem Cx.Ok.unwish(ok:(X.wish E).Ok):X.Ok:=
 ⟨ok.mod,ok.kind,ok.glob,ok.blt,ok.above,ok.inj,ok.has,ok.cab,ok.hd,ok.frames,ok.stk,ok.exf,ok.bs,ok.bsz,ok.noex,ok.exfs,ok.funs,ok.frf⟩
theorem Inv.wish(I:Inv X pins σ H s)(E:Value->Shared->Prop):Inv (X.wish E) pins σ H s:=⟨I.ok.wish E,I.os,I.bare,I.base,I.loc,I.cell,I.free,I.freeC,I.pin,I.hok,I.len⟩
theorem Inv.unwish(I:Inv (X.wish E) pins σ H s):Inv X pins σ H s:=⟨I.ok.unwish,I.os,I.bare,I.base,I.loc,I.cell,I.free,I.freeC,I.pin,I.hok,I.len⟩
theorem SP.unwish{D:eJ}{f:Flow}{s':Shared}(h:SP (X.wish E) pins D f s'):SP X pins D f s':=by
 cases f with
 | next=>obtain ⟨σ',H',I,q⟩:=h;exact ⟨σ',H',I.unwish,q⟩
 | brk=>obtain ⟨σ',H',I,q⟩:=h;exact ⟨σ',H',I.unwish,q⟩
 | cont=>obtain ⟨σ',H',I,q⟩:=h;exact ⟨σ',H',I.unwish,q⟩
 | ret u=>obtain ⟨v,σ',H',I,r,q⟩:=h;exact ⟨v,σ',H',I.unwish,r,q⟩
theorem PE.nox{t:TE}(h:PE X.nox e t):PE X e t:=λ pins s σ H Q I hw=>
 wpAny_mono (h pins s σ H Q (I.wish _) hw) (λ _ _ ⟨v,H',I',r,q⟩=>⟨v,H',I'.unwish,r,q⟩) λ _ _ z=>False.elim z
theorem PT.nox{t:TT}(h:PT X.nox e t):PT X e t:=λ pins s σ H Q I hw=>
 wpAny_mono (h pins s σ H Q (I.wish _) hw) (λ _ _ ⟨H',I',q⟩=>⟨H',I'.unwish,q⟩) λ _ _ z=>False.elim z
theorem PSs.nox{st:List Stmt}{t:TS}(h:PSs X.nox st t):PSs X st t:=λ pins s σ H D I hw=>
 wpAny_mono (h pins s σ H D (I.wish _) hw) (λ _ _ q=>q.unwish) λ _ _ z=>False.elim z
section
variable {rest:List Stmt} {t u:TS}
noncomputable def pP:TS:=λ D σ H=>D.nx σ H
noncomputable def eh(t u:TS):TS:=λ D σ H=>t { D with nx:=u D } σ H
theorem aY:PSs X [] pP:=λ _ _ σ H _ I h=>wpAny_execs_nil ⟨σ,H,I,h⟩
theorem ak(h1:PS X st t)(h2:PSs X rest u):PSs X (st::rest) (eh t u):=by
 intro pins s σ H D I h;refine wpAny_execs_cons (thn (h1 pins s σ H { D with nx:=u D } I h) λ f s1 q=>?_);cases f with
 | next=>
  obtain ⟨σ',H',I',q⟩:=q;exact h2 pins s1 σ' H' D I' q
 | ret v=>exact q
 | brk=>exact q
 | cont=>exact q
theorem ao(h1:PS X st t):PSs X [st] t:=by
 intro pins s σ H D I h;refine wpAny_execs_cons (thn (h1 pins s σ H D I h) λ f s1 q=>?_);cases f with
 | next=>exact wpAny_execs_nil q
 | ret v=>exact q
 | brk=>exact q
 | cont=>exact q
theorem Inv.quiet(I:Inv X pins σ H s):interactive X.env=false:=by simp [interactive,I.ok.kind]
noncomputable def vJ(te:TE):TS:=λ D σ H=>te σ H λ _ H1=>D.nx σ H1
theorem bV(he:PE X e te)(hs:swapsWith e none pos.line X.env=pure false:=by rfl):PS X (.Expr e pos) (vJ te):=by
 intro pins s σ H D I h;exact wpAny_Expr_any (thn (he pins s σ H _ I h) λ v s1 ⟨x,H1,I1,r1,q1⟩=>⟨σ,H1,I1,q1⟩) I.quiet hs
noncomputable def zgl(te:TE):TS:=λ D σ H=>te σ H D.rt
theorem ay(he:PE X e te):PS X (.Return (some e) pos) (zgl te):=by
 intro pins s σ H D I h;exact wpAny_Return_some (thn (he pins s σ H _ I h) λ v s1 ⟨x,H1,I1,r1,q1⟩=>⟨x,σ,H1,I1,r1,q1⟩)
noncomputable def js(c:TT)(t u:TS):TS:=λ D σ H=>c σ H λ b H1=>if b=true then t D σ H1 else u D σ H1
theorem aS{c:Expr}{a b:List Stmt}(hc:PT X c tc)(ha:PSs X a t)(hb:PSs X b u):PS X (.If c a b pos) (js tc t u):=by
 intro pins s σ H D I h;refine wpAny_If (thn (hc pins s σ H _ I h) λ d s1 ⟨H1,I1,q1⟩=>?_);cases d with
 | true=>exact ha pins s1 σ H1 D I1 q1
 | false=>exact hb pins s1 σ H1 D I1 q1
noncomputable def zgf:TS:=λ _ _ _=>False
theorem ko{sts:List Stmt}:PSs X sts zgf:=λ _ _ _ _ _ _ h=>h.elim
end
noncomputable abbrev TG:=V->St->Hp->(St->Hp->Prop)->Prop
variable {g:TG}
noncomputable abbrev TGs:=List V->St->Hp->(St->Hp->Prop)->Prop
noncomputable def PG(X:Cx)(target:Expr)(t:TG):Prop:=
 ∀ (pins:List (Addr × Obj)) (s:Shared) (σ:St) (H:Hp) (v:V) (u:Value) (Q:St->Hp->Prop),Inv X pins σ H s->RelV v u->t v σ H Q->
  wpAny (model X.prog X.w) X.A (assign target X.env u) (λ _ s'=>∃ σ' H',Inv X pins σ' H' s'/\Q σ' H') X.xe s
noncomputable def PGs(X:Cx)(ts:List Expr)(t:TGs):Prop:=
 ∀ (pins:List (Addr × Obj)) (s:Shared) (σ:St) (H:Hp) (vs:List V) (us:List Value) (Q:St->Hp->Prop),Inv X pins σ H s->Vals vs us->t vs σ H Q->
  wpAny (model X.prog X.w) X.A (assignInOrder ((assignEach ts X.env).map (·.2)) us) (λ _ s'=>∃ σ' H',Inv X pins σ' H' s'/\Q σ' H') X.xe s
noncomputable abbrev lE:=V->V->V->Hp->(Hp->Prop)->Prop
noncomputable def qi(X:Cx)(t:lE):Prop:=
 ∀ (pins:List (Addr × Obj)) (s:Shared) (σ:St) (H:Hp) (o i v:V) (ov iv u:Value) (Q:Hp->Prop),Inv X pins σ H s->RelV o ov->RelV i iv->RelV v u->t o i v H Q->
  wpAny (model X.prog X.w) X.A (setItem ov iv u) (λ _ s'=>∃ H',Inv X pins σ H' s'/\Q H') X.xe s
noncomputable abbrev TIp:=V->V->Hp->VK->Prop
noncomputable def PIp(X:Cx)(op:Operator)(t:TIp):Prop:=
 ∀ (pins:List (Addr × Obj)) (s:Shared) (σ:St) (H:Hp) (x y:V) (v u:Value) (Q:VK),Inv X pins σ H s->RelV x v->RelV y u->t x y H Q->
  wpAny (model X.prog X.w) X.A (inplaceOp op v u) (EP X pins σ Q) X.xe s
noncomputable def dC(i:Nat):TG:=λ v σ H Q=>Q (σ.set i (some v)) H
theorem aR(hN:X.N.Nodup)(hi:X.N[i]?=some x)(hx:Loc X.env.scope x)(hf:X.fn x=true\/X.env.scope.names.lookup x=some .local:=by first | exact .inl rfl | exact .inr rfl | assumption):PG X (.Name x pos) (dC i):=by
 intro pins s σ H v u Q I r h;exact wpAny_assign_Name (jq I hN hi hx r (λ s' I'=>⟨_,H,I',h⟩) hf)
noncomputable def sf:TGs:=λ vs σ H Q=>vs=[]/\Q σ H
noncomputable def mj(t:TG)(u:TGs):TGs:=λ vs σ H Q=>∃ v r,vs=v::r/\t v σ H λ σ' H'=>u r σ' H' Q
theorem fH:PGs X [] sf:=by
 intro pins s σ H vs us Q I r h;obtain ⟨e,h⟩:=h;subst e;cases r;exact assignInOrder_nil ⟨σ,H,I,h⟩
theorem cW{t:TG}{u:TGs}(h1:PG X e t)(h2:PGs X es u)(hs:(assignEach (e::es) X.env).map (·.2)=assign e X.env::(assignEach es X.env).map (·.2):=by rfl):PGs X (e::es) (mj t u):=by
 intro pins s σ H vs us Q I r h;obtain ⟨v,vr,e1,h⟩:=h;subst e1;cases r with
 | cons r rr=>
  rw [hs];refine assignInOrder_cons (thn (h1 pins s σ H _ _ _ I r h) λ _ s1 ⟨σ1,H1,I1,q1⟩=>?_);exact h2 pins s1 σ1 H1 _ _ Q I1 rr q1
noncomputable def mm(K:W.Frag)(n:Nat)(t:TGs):TG:=λ v σ H Q=>∃ a xs,v = .ref a/\SqT K H a xs/\xs.length=n/\t xs σ H Q
theorem zd1{k:Nat}{t:TGs}(hc:X.calm=true)(h:PGs X es t)(hn:(assignEach es X.env).length=n:=by rfl)(hst:(assignEach es X.env).findIdx? (·.1)=none:=by rfl):PG X (.Tuple es k pos) (mm X.K n t):=by
 intro pins s σ H v u Q I r hw;obtain ⟨a,xs,e1,hq,hl,hw⟩:=hw;subst e1;cases r;obtain ⟨its,rv,ht,hz⟩:=I.tuple hq;refine assign_Tuple_tuple (I.ok.hd hc) ht (by simp [hn,← hl,rv.length]) hst λ h' hx=>?_;have I1:Inv X pins σ H { s with heap:=h' }:=I.kept (t':=s.toks) λ b o e=>hx b o (Nat.ne_of_lt (Heap.lt_size e)) e;exact h pins _ σ H xs _ Q I1 (by simpa using rv) hw
noncomputable def zc(to ti:TE)(t:lE):TG:=λ v σ H Q=>to σ H λ o H1=>ti σ H1 λ i H2=>t o i v H2 λ H3=>Q σ H3
theorem zd0{o i:Expr}{t:lE}(ho:PE X o to)(hi:PE X i ti)(hs:qi X t)(ha:∀ v,assign (.Subscript o i pos) X.env v=(do
   let ov ← holding [v] (eval o X.env);let iv ← holding [v,ov] (eval i X.env)
   standAt pos
   holding [v,ov,iv] (setItem ov iv v)
   release [v,ov,iv] []):=by intro _;rfl):PG X (.Subscript o i pos) (zc to ti t):=by
 intro pins s σ H v u Q I r h;rw [ha];refine ah (wpAny_holding (thn (ho pins s σ H _ I h) λ ov s1 ⟨x,H1,I1,r1,q1⟩=>?_));refine ah (wpAny_holding (thn (hi pins s1 σ H1 _ I1 q1) λ iv s2 ⟨y,H2,I2,r2,q2⟩=>?_));refine ah (wpAny_standAt (ah (wpAny_holding (thn (hs pins s2 σ H2 x y v ov iv u _ I2 r1 r2 r q2) λ _ s3 ⟨H3,I3,q3⟩=>?_))));exact wpAny_release ⟨σ,H3,I3,q3⟩
noncomputable def gF(te:TE)(g:TG):TS:=λ D σ H=>te σ H λ x H1=>g x σ H1 D.nx
theorem zed(he:PE X e te)(hg:PG X tg g)(hs:swapsWithSole [tg] e pos.line X.env=pure false:=by rfl)(hw:swappedStores [tg] e X.env=pure none:=by rfl)(h1:(assignEach [tg] X.env).map (·.2)=[assign tg X.env]:=by rfl):PS X (.Assign [tg] e pos) (gF te g):=by
 intro pins s σ H D I h;refine wpAny_Assign_stores (thn (he pins s σ H _ I h) λ v s1 ⟨x,H1,I1,r1,q1⟩=>?_) hs hw;rw [h1];exact thn (hg pins s1 σ H1 x v _ I1 r1 q1) λ _ s2 q=>q
theorem aE(hN:X.N.Nodup)(hi:X.N[i]?=some x)(hx:Loc X.env.scope x)(he:PE X e te)(hs:swapsWith e (some (.Name x pos')) pos.line X.env=pure false:=by rfl)(hf:X.fn x=true\/X.env.scope.names.lookup x=some .local:=by first | exact .inl rfl | exact .inr rfl | assumption):
  PS X (.Assign [.Name x pos'] e pos) (gF te (dC i)):=by
 intro pins s σ H D I h;refine wpAny_Assign_Name (thn (he pins s σ H _ I h) λ v s1 ⟨y,H1,I1,r1,q1⟩=>?_) hs;exact jq I1 hN hi hx r1 (λ s2 I2=>⟨_,H1,I2,q1⟩) hf
noncomputable def zfZ(i:Nat)(te:TE)(ti:TIp):TS:=λ D σ H=>∃ x,σ[i]?=some (some x)/\te σ H λ y H1=>ti x y H1 λ z H2=>D.nx (σ.set i (some z)) H2
theorem ua{op:Operator}{ti:TIp}(hN:X.N.Nodup)(hi:X.N[i]?=some x)(hx:Loc X.env.scope x)(he:PE X e te)(ho:PIp X op ti)(hf:X.fn x=true\/X.env.scope.names.lookup x=some .local:=by first | exact .inl rfl | exact .inr rfl | assumption):
  PS X (.AugAssign (.Name x pos') op e pos) (zfZ i te ti):=by
 intro pins s σ H D I h;obtain ⟨v,e1,h⟩:=h;obtain ⟨m,hn,hl⟩:=I.loc;have vis:Vis X.env.scope x:=by rcases hx with k | k;exact .inl k;exact .inr (.inl k)
 obtain ⟨u,r,l⟩:=hl i x v hi e1 vis;refine wpAny_AugAssign_Name ?_;have go:wpAny (model X.prog X.w) X.A (eval e X.env) (λ w s₂=>wpAny (model X.prog X.w) X.A (inplaceOp op u w) (λ r s₃=>wpAny (model X.prog X.w) X.A (storeName X.env x r) (λ _=>SP X pins D .next) X.xe s₃) X.xe s₂) X.xe s:=by
  refine thn (he pins s σ H _ I h) λ w s1 ⟨y,H1,I1,r1,q1⟩=>?_;refine thn (ho pins s1 σ H1 v y u w _ I1 r r1 q1) λ z s2 ⟨zv,H2,I2,r2,q2⟩=>?_;exact jq I2 hN hi hx r2 (λ s3 I3=>⟨_,H2,I3,q2⟩) hf
 rcases l with ⟨hk,hm⟩ | ⟨hk,c,hc,hcell⟩
 ·exact wpAny_loadName_local I.ok.kind hk hn hm go
 ·rcases hk with hk | hk
  ·exact wpAny_loadName_cell I.ok.kind hk hc hcell go
  ·rcases hx with k | k
   ·have:X.env.scope.names.lookup x=some .free:=hk;rw [k] at this;cases this
   ·have:X.env.scope.names.lookup x=some .free:=hk;rw [k] at this;cases this
noncomputable def ipI(f:Int->Int->Int):TIp:=λ x y H Q=>∃ i j,x = .int i/\y = .int j/\Q (.int (f i j)) H
theorem sy:PIp X .Add (ipI λ i j=>i+j):=by
 intro pins s σ H x y v u Q I r1 r2 h;obtain ⟨i,j,e1,e2,q⟩:=h;subst e1;subst e2;obtain ⟨t,rfl⟩:=r1;obtain ⟨t',rfl⟩:=r2;exact iadd_int ⟨.int _,H,I.tok _,⟨_,rfl⟩,q⟩
noncomputable def vP(c:TT)(tb:TS):TS:=λ D σ H=>∃ W:Nat->St->Hp->Prop,(∃ m,W m σ H)/\∀ m σ H,W m σ H->
 c σ H λ b H1=>if b=true then ∃ N:St->Hp->Prop,(∀ σ' H',N σ' H'->∃ m',m' < m/\W m' σ' H')/\tb { D with nx:=N,ct:=N,bk:=D.nx } σ H1 else D.nx σ H1
theorem zei{c:Expr}(hp:PassesOwn (model X.prog X.w) X.A X.env X.xe)(hc:PT X c tc)(hb:PSs X body tb):PS X (.While c body [] pos) (vP tc tb):=by
 intro pins s σ H D I h;obtain ⟨W,⟨m0,w0⟩,turn⟩:=h;refine wpAny_While (codeAny_whileLoop (λ n s'=>∃ σ' H',Inv X pins σ' H' s'/\W n σ' H') ?_ m0 ⟨σ,H,I,w0⟩);rintro n s1 ⟨σ1,H1,I1,w1⟩;refine wpAny_passesOwn hp (thn (hc pins s1 σ1 H1 _ I1 (turn n σ1 H1 w1)) λ b s2 ⟨H2,I2,q2⟩=>?_);cases b with
 | true=>
  obtain ⟨N,hN,q2⟩:=q2;rw [if_pos rfl];refine wpAny_passesOwn hp (thn (hb pins s2 σ1 H2 _ I2 q2) λ f s3 q3=>?_);cases f with
  | next=>
   obtain ⟨σ3,H3,I3,n3⟩:=q3;obtain ⟨m',hm,w3⟩:=hN σ3 H3 n3;exact ⟨m',hm,σ3,H3,I3,w3⟩
  | cont=>
   obtain ⟨σ3,H3,I3,n3⟩:=q3;obtain ⟨m',hm,w3⟩:=hN σ3 H3 n3;exact ⟨m',hm,σ3,H3,I3,w3⟩
  | brk=>exact q3
  | ret v=>exact q3
 | false=>
  rw [if_neg bi];exact wpAny_execs_nil ⟨σ1,H2,I2,q2⟩
structure It where
 go:Nat->Hp->Prop
 yld:Nat->Hp->V->Hp->Prop
 stop:Nat->Hp->Prop
variable {J:It}
noncomputable def dR(X:Cx)(pins:List (Addr × Obj))(H:Hp)(b:Addr):Prop:=
 H b=none/\b≠X.env.locals/\b∉X.fs/\(b∈X.ex\/X.s₀.heap.objs.size<=b)/\(∀ x c,X.env.cells.lookup x=some c->c≠b)/\∀ p∈X.pn++pins,p.1≠b
theorem Inv.fpOk(I:Inv X pins σ H s)(hb:s.heap.objs.size<=b)(hn:H' b=none):dR X pins H' b:=by
 refine ⟨hn,Nat.ne_of_gt (Nat.lt_of_lt_of_le I.lt hb),I.nofs hb,.inr (Nat.le_trans I.sz hb),λ x c e z=>?_,λ p hp z=>?_⟩
 ·obtain ⟨v,q⟩:=I.cell x c e;exact absurd (Nat.lt_of_lt_of_le q.lt (by rw [z];exact hb)) (Nat.lt_irrefl _)
 ·exact absurd (Nat.lt_of_lt_of_le (Heap.lt_size (I.pin p hp).1) (by rw [z];exact hb)) (Nat.lt_irrefl _)
structure fQ (P:Program) (w:World) (K:W.Frag) (tg:Expr) (J:It) (fp:List Addr) (it:Addr) (tn:Nat->Heap->Prop):Prop where
 mem:it∈fp
 obj:∀ i h,tn i h->∀ b∈fp,∃ o,h.get? b=some o/\∀ v,o.data≠.cell v
 keep:∀ i h h',tn i h->(∀ b∈fp,∀ o,h.get? b=some o->h'.get? b=some o)->tn i h'
 item:∀ (X:Cx),X.prog=P->X.w=w->X.K=K->X.calm=true->∀ (i:Nat) (pins:List (Addr × Obj)) (s:Shared) (σ:St) (H:Hp) (E:Value->Shared->Prop),Inv X pins σ H s->(∀ b∈fp,dR X pins H b)->tn i s.heap->J.go i H->
  wpAny (model P w) X.A (pyNext (.ref it)) (λ r s1=>∃ u,r=some u/\
   wpAny (model P w) X.A (letOwnedTupleGo tg (.ref it) u) (λ _ s2=>∃ x H',Inv X pins σ H' s2/\RelV x u/\J.yld i H x H'/\tn (i+1) s2.heap/\∀ b∈fp,H' b=none) E s1) E s
 done:∀ (X:Cx),X.prog=P->X.w=w->X.K=K->X.calm=true->∀ (i:Nat) (pins:List (Addr × Obj)) (s:Shared) (σ:St) (H:Hp) (E:Value->Shared->Prop),Inv X pins σ H s->(∀ b∈fp,dR X pins H b)->tn i s.heap->J.stop i H->
  wpAny (model P w) X.A (pyNext (.ref it)) (λ r s1=>r=none/\Inv X pins σ H s1) E s
 self:∀ (A:Around) (i:Nat) (s:Shared) (Q:Value->Shared->Prop) (E:Value->Shared->Prop),tn i s.heap->Q (.ref it) s->wpAny (model P w) A (pyIter (.ref it)) Q E s
noncomputable abbrev TI:=St->Hp->(It->Hp->Prop)->Prop
variable {wi:TI}
noncomputable def PIE(X:Cx)(pins:List (Addr × Obj))(σ:St)(tg:Expr)(R:It->Hp->Prop)(itv:Value)(s2:Shared):Prop:=
 ∃ (it:Addr) (fp:List Addr) (tn:Nat->Heap->Prop) (J:It) (H':Hp),itv = .ref it/\Inv X pins σ H' s2/\fQ X.prog X.w X.K tg J fp it tn/\tn 0 s2.heap/\(∀ b∈fp,dR X pins H' b)/\R J H'
noncomputable def PI(X:Cx)(tg iter:Expr)(wi:TI):Prop:=
 ∀ (pins:List (Addr × Obj)) (s:Shared) (σ:St) (H:Hp) (R:It->Hp->Prop),Inv X pins σ H s->wi σ H R->
  wpAny (model X.prog X.w) X.A (eval iter X.env) (λ v s1=>wpAny (model X.prog X.w) X.A (pyIter v) (PIE X pins σ tg R) X.xe s1) X.xe s
theorem j3{o:Obj}{n:String}{vs:Array Value}{Q:Unit->Shared->Prop}(ho:s.heap.get? it=some o)(hc:o.cls = .type n)(hd:o.data = .fields vs)(hn:["enumerate", "zip", "dict_itemiterator", "dict_reverseitemiterator", "odict_iterator", "itertools.zip_longest", "itertools.pairwise"].contains n=false)(hQ:Q () s):wpAny M A (letOwnedTupleGo tg (.ref it) u) Q E s:=by
  unfold letOwnedTupleGo;cases tg <;> first
    | exact aC hQ
    | (cases u <;> first
        | exact aC hQ
        | (refine ah (wpAny_load ho ?_)
           rw [hc,hd];show wpAny M A (if (["enumerate", "zip", "dict_itemiterator", "dict_reverseitemiterator", "odict_iterator", "itertools.zip_longest", "itertools.pairwise"].contains n && vs[0]? == some (rawInt _))=true then _ else _) Q E s;rw [if_neg (by intro h;rw [hn,Bool.false_and] at h;cases h)];exact aC hQ))
noncomputable def Itl(K:W.Frag)(a:Addr):It:=
 ⟨λ i H=>∃ xs x,SqL K H a xs/\xs[i]?=some x,λ i H x H'=>H'=H/\∀ xs,SqL K H a xs->xs[i]?=some x,λ i H=>∃ xs,SqL K H a xs/\xs.length<=i⟩
noncomputable def Itt(K:W.Frag)(a:Addr):It:=
 ⟨λ i H=>∃ xs x,SqT K H a xs/\xs[i]?=some x,λ i H x H'=>H'=H/\∀ xs,SqT K H a xs->xs[i]?=some x,λ i H=>∃ xs,SqT K H a xs/\xs.length<=i⟩
noncomputable def Itr(lo:Int)(n:Nat):It:=⟨λ i _=>i < n,λ i H x H'=>H'=H/\x = .int (lo+i),λ i _=>n<=i⟩
theorem zgD(a it:Addr):fQ P w K tg (Itl K a) [it] it (λ i h=>h.IsListIter it a i) where
 mem:=by simp
 obj:=λ i h st b hb=>by
  have e:b=it:=by simpa using hb
  subst e;obtain ⟨o,e,c,d⟩:=st;exact ⟨o,e,λ v z=>by rw [d] at z;cases z⟩
 keep:=λ i h h' st k=>st.at λ o e=>k it (by simp) o e
 item:=by
  intro X hP hw hK hc i pins s σ H E I hf st hg;subst hP hw hK;obtain ⟨xs,x,hq,hx⟩:=hg;obtain ⟨its,rv,p,hz⟩:=I.list hq;obtain ⟨u,hu,ru⟩:=rv.get hx;obtain ⟨f0,f1,f2,f3,f4,f5⟩:=hf it (by simp);refine wpAny_pyNext_list_item st p.isList (x:=u) (by simpa using hu) λ h' st' sb=>?_;have I1:Inv X pins σ H { s with heap:=h' }:=I.turned (t':=s.toks) (λ b o hb e=>(sb.2 b hb).trans e) f0 f1 f3 f4 f5;obtain ⟨o,e,c,d⟩:=id st';exact ⟨u,rfl,j3 (s:={ s with heap:=h' }) e c d (by decide) ⟨x,H,I1,ru,⟨rfl,λ ys hy=>by rw [I.list_inj hy hq];exact hx⟩,st',λ b hb=>(hf b hb).1⟩⟩
 done:=by
  intro X hP hw hK hc i pins s σ H E I hf st hg;subst hP hw hK;obtain ⟨xs,hq,hx⟩:=hg;obtain ⟨its,rv,p,hz⟩:=I.list hq;obtain ⟨f0,f1,f2,f3,f4,f5⟩:=hf it (by simp);have hl:=rv.length;exact wpAny_pyNext_list_end (I.ok.hd hc) st p.isList (by simp;omega) λ h' eb=>⟨rfl,I.turned (t':=s.toks) (λ b o hb e=>eb b o hb e) f0 f1 f3 f4 f5⟩
 self:=λ _ _ _ _ _ st h=>wpAny_pyIter_listiter st h
theorem zgF(a it:Addr):fQ P w K tg (Itt K a) [it] it (λ i h=>h.IsTupleIter it a i) where
 mem:=by simp
 obj:=λ i h st b hb=>by
  have e:b=it:=by simpa using hb
  subst e;obtain ⟨o,e,c,d⟩:=st;exact ⟨o,e,λ v z=>by rw [d] at z;cases z⟩
 keep:=λ i h h' st k=>st.at λ o e=>k it (by simp) o e
 item:=by
  intro X hP hw hK hc i pins s σ H E I hf st hg;subst hP hw hK;obtain ⟨xs,x,hq,hx⟩:=hg;obtain ⟨its,rv,p,hz⟩:=I.tuple hq;obtain ⟨u,hu,ru⟩:=rv.get hx;obtain ⟨f0,f1,f2,f3,f4,f5⟩:=hf it (by simp);refine wpAny_pyNext_tuple_item st (show s.heap.IsTuple a its.toArray from p) (x:=u) (by simpa using hu) λ h' st' sb=>?_;have I1:Inv X pins σ H { s with heap:=h' }:=I.turned (t':=s.toks) (λ b o hb e=>(sb.2 b hb).trans e) f0 f1 f3 f4 f5;obtain ⟨o,e,c,d⟩:=id st';exact ⟨u,rfl,j3 (s:={ s with heap:=h' }) e c d (by decide) ⟨x,H,I1,ru,⟨rfl,λ ys hy=>by rw [I.tuple_inj hy hq];exact hx⟩,st',λ b hb=>(hf b hb).1⟩⟩
 done:=by
  intro X hP hw hK hc i pins s σ H E I hf st hg;subst hP hw hK;obtain ⟨xs,hq,hx⟩:=hg;obtain ⟨its,rv,p,hz⟩:=I.tuple hq;obtain ⟨f0,f1,f2,f3,f4,f5⟩:=hf it (by simp);have hl:=rv.length;exact wpAny_pyNext_tuple_end (I.ok.hd hc) st (show s.heap.IsTuple a its.toArray from p) (by simp;omega) λ h' eb=>⟨rfl,I.turned (t':=s.toks) (λ b o hb e=>eb b o hb e) f0 f1 f3 f4 f5⟩
 self:=λ _ _ _ _ _ st h=>wpAny_pyIter_tupleiter st h
theorem zgE(it:Addr)(lo:Int)(n:Nat):fQ P w K tg (Itr lo n) [it] it (λ i h=>IsRangeIter h it (lo+(i:Nat) * 1) ((n:Int) - (i:Nat)) 1) where
 mem:=by simp
 obj:=λ i h st b hb=>by
  have e:b=it:=by simpa using hb
  subst e;exact ⟨_,st,λ v z=>by
   have z':Data.fields _=Data.cell v:=z;cases z'⟩
 keep:=λ i h h' st k=>k it (by simp) _ st
 item:=by
  intro X hP hw hK hc i pins s σ H E I hf st hg;subst hP hw hK;obtain ⟨f0,f1,f2,f3,f4,f5⟩:=hf it (by simp);have W:=Walks.range (prog:=X.prog) (w:=X.w) (I.ok.hd hc) it lo 1 n;refine W.item i s _ _ hg st λ v h' tk hv st' kk=>?_;obtain ⟨t,rfl⟩:=hv;have I1:Inv X pins σ H { s with heap:=h',toks:=tk }:=I.turned (λ b o hb e=>kk b o (by simpa using hb) e) f0 f1 f3 f4 f5;refine ⟨_,rfl,j3 (s:={ s with heap:=h',toks:=tk }) (n := "range_iterator") st' rfl rfl (by decide) ⟨.int (lo+i),H,I1,⟨t,?_⟩,⟨rfl,rfl⟩,st',λ b hb=>(hf b hb).1⟩⟩;rw [Int.mul_one]
 done:=by
  intro X hP hw hK hc i pins s σ H E I hf st hg;subst hP hw hK;obtain ⟨f0,f1,f2,f3,f4,f5⟩:=hf it (by simp);exact wpAny_pyNext_range_end (I.ok.hd hc) st (by have:n<=i:=hg;omega) λ h' eb=>⟨rfl,I.turned (t':=s.toks) (λ b o hb e=>eb b o hb e) f0 f1 f3 f4 f5⟩
 self:=λ _ _ _ _ _ st h=>wpAny_pyIter_rangeiter st h
noncomputable def zF(K:W.Frag)(tl:TE):TI:=λ σ H R=>tl σ H λ x H1=>∃ a,x = .ref a/\(∃ xs,SqL K H1 a xs)/\R (Itl K a) H1
noncomputable def zJ(K:W.Frag)(tl:TE):TI:=λ σ H R=>tl σ H λ x H1=>∃ a,x = .ref a/\(∃ xs,SqT K H1 a xs)/\R (Itt K a) H1
theorem bY{l:Expr}(hl:PE X l tl):PI X tg l (zF X.K tl):=by
 intro pins s σ H R I h;refine thn (hl pins s σ H _ I h) λ v s1 ⟨x,H1,I1,r1,q1⟩=>?_;obtain ⟨a,e,⟨xs,hq⟩,q⟩:=q1;subst e;cases r1;obtain ⟨its,rv,p,hz⟩:=I1.list hq;refine wpAny_pyIter_list p.isList ?_;refine ⟨s1.heap.objs.size,[s1.heap.objs.size],_,_,H1,rfl,I1.kept (t':=s1.toks) λ b o e=>aU _ e,zgD a _,⟨_,Heap.get?_push_size _ rfl,rfl,rfl⟩,λ b hb=>?_,q⟩;have e:b=s1.heap.objs.size:=by simpa using hb
 subst e;exact I1.fpOk (Nat.le_refl _) (I1.hok.fresh (Nat.le_refl _))
theorem kg{l:Expr}(hl:PE X l tl):PI X tg l (zJ X.K tl):=by
 intro pins s σ H R I h;refine thn (hl pins s σ H _ I h) λ v s1 ⟨x,H1,I1,r1,q1⟩=>?_;obtain ⟨a,e,⟨xs,hq⟩,q⟩:=q1;subst e;cases r1;obtain ⟨its,rv,p,hz⟩:=I1.tuple hq;refine wpAny_pyIter_tuple (show s1.heap.IsTuple a its.toArray from p) ?_;refine ⟨s1.heap.objs.size,[s1.heap.objs.size],_,_,H1,rfl,I1.kept (t':=s1.toks) λ b o e=>aU _ e,zgF a _,⟨_,Heap.get?_push_size _ rfl,rfl,rfl⟩,λ b hb=>?_,q⟩;have e:b=s1.heap.objs.size:=by simpa using hb
 subst e;exact I1.fpOk (Nat.le_refl _) (I1.hok.fresh (Nat.le_refl _))
theorem uA{R:It->Hp->Prop}{hi:Int}{t u v:Tok}(I:Inv X pins σ H s)(h1 : -(2 ^ 62)<=lo)(h2:lo < 2 ^ 62)(h3 : -(2 ^ 62)<=hi)(h4:hi < 2 ^ 62)(q:R (Itr lo (hi - lo).toNat) H):wpAny (model X.prog X.w) X.A (pyIter (.ref s.heap.objs.size)) (PIE X pins σ tg R) E { s with heap:=s.heap.push { cls:=.type "range", data:=.fields #[.int lo t,.int hi u,.int 1 v] },toks:=tk }:=by
 refine wpAny_pyIter_range (IsRange.new ..) (small_one h1 h2 h3 h4) ?_;have I1:Inv X pins σ H { s with heap:=s.heap.push { cls:=.type "range", data:=.fields #[.int lo t,.int hi u,.int 1 v] },toks:=tk }:=I.kept λ b o e=>aU _ e;refine ⟨(s.heap.push { cls:=.type "range", data:=.fields #[.int lo t,.int hi u,.int 1 v] }).objs.size,[(s.heap.push { cls:=.type "range", data:=.fields #[.int lo t,.int hi u,.int 1 v] }).objs.size],_,_,H,rfl,
  I1.kept (t':=tk) λ b o e=>aU _ e,zgE _ lo (hi - lo).toNat,?_,λ b hb=>?_,q⟩
 ·have e1:lo+((0:Nat):Int) * 1=lo:=by simp
  have e2:(((hi - lo).toNat:Nat):Int) - ((0:Nat):Int)=Builtin.Range.rangeSize lo hi 1:=by rw [rangeSize_one];split <;> omega
  show IsRangeIter _ _ (lo+((0:Nat):Int) * 1) ((((hi - lo).toNat:Nat):Int) - ((0:Nat):Int)) 1;rw [e1,e2];exact Heap.get?_push_size _ rfl
 ·have e:b=(s.heap.push { cls:=.type "range", data:=.fields #[.int lo t,.int hi u,.int 1 v] }).objs.size:=by simpa using hb
  subst e;exact I1.fpOk (Nat.le_refl _) (I1.hok.fresh (Nat.le_refl _))
noncomputable def zG(ta:TA):TI:=λ σ H R=>ta σ H λ vs H1=>∃ j:Int,vs=[.int j]/\-(2 ^ 62)<=j/\j < 2 ^ 62/\R (Itr 0 j.toNat) H1
noncomputable def zH(ta:TA):TI:=λ σ H R=>ta σ H λ vs H1=>∃ i j:Int,vs=[.int i,.int j]/\(-(2 ^ 62)<=i/\i < 2 ^ 62/\-(2 ^ 62)<=j/\j < 2 ^ 62)/\R (Itr i (j - i).toNat) H1
theorem eX{a:Expr}{ta:TA}(hg:Gl X "range")(hm:X.mg "range" = none)(ha:PA X [a] ta)(hs:starEach [a] X.env=[(false,eval a X.env)]:=by rfl):PI X tg (.Call (.Name "range" p) [a] [] pos) (zG ta):=by
 intro pins s σ H R I h;refine Call_ (dJ I hg hm boot_range (PyProof.Rows.callWith_type1 (thn (ha pos pins s σ H _ I h) λ us s1 ⟨vs,H1,I1,r1,q1⟩=>?_) hs rfl));obtain ⟨j,e,q1,q2,q⟩:=q1;subst e;cases r1 with
 | cons r rr=>
  cases rr;obtain ⟨t,rfl⟩:=r;exact call_range_1 (uA I1 (by omega) (by omega) q1 q2 (by simpa using q))
theorem zd3{a b:Expr}{ta:TA}(hg:Gl X "range")(hm:X.mg "range" = none)(ha:PA X [a,b] ta)(hs:starEach [a,b] X.env=[(false,eval a X.env),(false,eval b X.env)]:=by rfl)(hs2:starEach [b] X.env=[(false,eval b X.env)]:=by rfl):
  PI X tg (.Call (.Name "range" p) [a,b] [] pos) (zH ta):=by
 intro pins s σ H R I h;refine Call_ (dJ I hg hm boot_range (PyProof.Rows.callWith_type1 (thn (ha pos pins s σ H _ I h) λ us s1 ⟨vs,H1,I1,r1,q1⟩=>?_) (by rw [hs,hs2]) (by rw [hs2];rfl)));obtain ⟨i,j,e,⟨q1,q2,q3,q4⟩,q⟩:=q1;subst e;cases r1 with
 | cons r rr=>
  cases rr with
  | cons r' rr=>
   cases rr;obtain ⟨t,rfl⟩:=r;obtain ⟨t',rfl⟩:=r';exact call_range_2 (uA I1 q1 q2 q3 q4 q)
noncomputable def zgb(wi:TI)(g:TG)(tb:TS):TS:=λ D σ H=>wi σ H λ J H1=>∃ W:Nat->Nat->St->Hp->Prop,(∃ m,W 0 m σ H1)/\∀ i m σ H,W i m σ H->
 (J.stop i H/\D.nx σ H)\/(J.go i H/\∃ N:St->Hp->Prop,(∀ σ' H',N σ' H'->∃ m',m' < m/\W (i+1) m' σ' H')/\∀ x H',J.yld i H x H'->g x σ H' λ σ2 H2=>tb { D with nx:=N,ct:=N,bk:=D.nx } σ2 H2)
noncomputable def jd(fp:List Addr)(h:Heap):List (Addr × Obj):=fp.filterMap λ b=>(h.get? b).map λ o=>(b,o)
theorem j8{o:Obj}(hb:b∈fp)(e:h.get? b=some o):(b,o)∈jd fp h:=List.mem_filterMap.mpr ⟨b,hb,by rw [e];rfl⟩
theorem zcf{p:Addr × Obj}(hp:p∈jd fp h):p.1∈fp/\h.get? p.1=some p.2:=by
 obtain ⟨b,hb,e⟩:=List.mem_filterMap.mp hp;cases q:h.get? b with
 | none=>rw [q] at e;cases e
 | some o=>
  rw [q] at e;have e':(b,o)=p:=Option.some.inj e;subst e';exact ⟨hb,q⟩
theorem Inv.pinned(I:Inv X pins σ H s)(hf:∀ b∈fp,dR X pins H b)(ho:∀ b∈fp,∃ o,s.heap.get? b=some o/\∀ v,o.data≠.cell v):Inv X (pins++jd fp s.heap) σ H s:=
 I.pins_of λ p hp=>(al_mp.mp hp).elim (λ z=>I.pin p (List.mem_append_right _ z)) λ z=>by
  obtain ⟨hb,e⟩:=zcf z;obtain ⟨f0,f1,f2,_⟩:=hf p.1 hb;obtain ⟨o,e',d⟩:=ho p.1 hb;rw [e] at e';cases e';exact ⟨e,f0,f1,f2,d⟩
theorem Inv.unpinned{pl:List (Addr × Obj)}(I:Inv X (pins++pl) σ H s):Inv X pins σ H s:=I.pins_of λ p hp=>I.pin p (List.mem_append_right _ (List.mem_append_left _ hp))
theorem uc(hp:PassesOwn (model X.prog X.w) X.A X.env X.xe)(hc:X.calm=true)(hi:PI X tg iter wi)(hg:PG X tg g)(hb:PSs X body tb)(hs:∀ x,foldedSetIterable iter X.env x=pure x:=by intro _;rfl):PS X (.For tg iter body [] pos) (zgb wi g tb):=by
 intro pins s σ H D I h;refine wpAny_For (thn (hi pins s σ H _ I h) λ v s1 h1=>thn h1 λ itv s2 h2=>?_) hs;obtain ⟨it,fp,tn,J,H2,e,I2,T,st2,f2,W,⟨m0,w0⟩,turn⟩:=h2;subst e
 -- what stays true of the iterator's objects through the loop
 have stat:∀ {H':Hp},(∀ b∈fp,H' b=none)->∀ b∈fp,dR X pins H' b:=λ hn b hb=>⟨hn b hb,(f2 b hb).2⟩
 refine codeAny_forLoop_any (λ n s'=>∃ i σ' H',Inv X pins σ' H' s'/\tn i s'.heap/\(∀ b∈fp,H' b=none)/\W i n σ' H') ?_ m0 ⟨0,σ,H2,I2,st2,λ b hb=>(f2 b hb).1,w0⟩;rintro n s3 ⟨i,σ3,H3,I3,st3,fr3,w3⟩;rcases turn i n σ3 H3 w3 with ⟨stop,qn⟩ | ⟨go,N,hN,step⟩
 ·refine wpAny_passesOwn hp (thn (T.done X rfl rfl rfl hc i pins s3 σ3 H3 X.xe I3 (stat fr3) st3 stop) λ r s4 ⟨hr,I4⟩=>?_);subst hr;exact wpAny_execs_nil ⟨σ3,H3,I4,qn⟩
 ·refine wpAny_passesOwn hp (thn (T.item X rfl rfl rfl hc i pins s3 σ3 H3 X.xe I3 (stat fr3) st3 go) λ r s4 ⟨u,hr,h4⟩=>?_);subst hr;refine wpAny_passesOwn hp (thn h4 λ _ s5 ⟨x,H5,I5,r5,y5,st5,fr5⟩=>?_);have I5':=I5.pinned (stat fr5) (T.obj _ _ st5);refine wpAny_passesOwn hp (thn (hg _ s5 σ3 H5 x u _ I5' r5 (step x H5 y5)) λ _ s6 ⟨σ6,H6,I6,q6⟩=>?_);refine wpAny_passesOwn hp (thn (hb _ s6 σ6 H6 _ I6 q6) λ f s7 q7=>?_);have again:∀ {σ7:St} {H7:Hp},Inv X (pins++jd fp s5.heap) σ7 H7 s7->N σ7 H7->∃ m,m < n/\∃ i σ' H',Inv X pins σ' H' s7/\tn i s7.heap/\(∀ b∈fp,H' b=none)/\W i m σ' H':=λ {σ7 H7} I7 n7=>by
   obtain ⟨m',hm,w7⟩:=hN σ7 H7 n7;refine ⟨m',hm,i+1,σ7,H7,I7.unpinned,T.keep _ _ _ st5 λ b hb o e=>(I7.pin (b,o) (List.mem_append_right _ (List.mem_append_right _ (j8 hb e)))).1,λ b hb=>?_,w7⟩;obtain ⟨o,e,d⟩:=T.obj _ _ st5 b hb;exact (I7.pin (b,o) (List.mem_append_right _ (List.mem_append_right _ (j8 hb e)))).2.1
  cases f with
  | next=>obtain ⟨σ7,H7,I7,n7⟩:=q7;exact again I7 n7
  | cont=>obtain ⟨σ7,H7,I7,n7⟩:=q7;exact again I7 n7
  | brk=>obtain ⟨σ7,H7,I7,q7⟩:=q7;exact ⟨σ7,H7,I7.unpinned,q7⟩
  | ret v=>obtain ⟨x7,σ7,H7,I7,r7,q7⟩:=q7;exact ⟨x7,σ7,H7,I7.unpinned,r7,q7⟩
theorem iU(Pv:Nat->St->Hp->Prop)(h0:Pv 0 σ H)(hl:∀ i σ H,i<=xs.length->Pv i σ H->SqL K H a xs)(hs:∀ i x σ H,xs[i]?=some x->Pv i σ H->g x σ H λ σ2 H2=>tb { D with nx:=Pv (i+1),ct:=Pv (i+1),bk:=D.nx } σ2 H2)(hd:∀ σ H,Pv xs.length σ H->D.nx σ H):
  ∃ W:Nat->Nat->St->Hp->Prop,(∃ m,W 0 m σ H)/\∀ i m σ H,W i m σ H->
   ((Itl K a).stop i H/\D.nx σ H)\/((Itl K a).go i H/\∃ N:St->Hp->Prop,(∀ σ' H',N σ' H'->∃ m',m' < m/\W (i+1) m' σ' H')/\∀ x H',(Itl K a).yld i H x H'->g x σ H' λ σ2 H2=>tb { D with nx:=N,ct:=N,bk:=D.nx } σ2 H2):=by
 refine ⟨λ i m σ H=>m=xs.length - i/\i<=xs.length/\Pv i σ H,⟨xs.length,by simp,Nat.zero_le _,h0⟩,?_⟩;rintro i m σ H ⟨rfl,hi,p⟩;have q:=hl i σ H hi p;by_cases hlt:i < xs.length
 ·refine .inr ⟨⟨xs,xs[i],q,by simp [hlt]⟩,Pv (i+1),λ σ' H' p'=>⟨xs.length - (i+1),by omega,rfl,hlt,p'⟩,λ x H' y=>?_⟩;obtain ⟨e,y⟩:=y;subst e;exact hs i x σ _ (y xs q) p
 ·have e:i=xs.length:=by omega
  subst e;exact .inl ⟨⟨xs,q,Nat.le_refl _⟩,hd σ H p⟩
theorem yY(Pv:Nat->St->Hp->Prop)(h0:Pv 0 σ H)(hl:∀ i σ H,i<=xs.length->Pv i σ H->SqT K H a xs)(hs:∀ i x σ H,xs[i]?=some x->Pv i σ H->g x σ H λ σ2 H2=>tb { D with nx:=Pv (i+1),ct:=Pv (i+1),bk:=D.nx } σ2 H2)(hd:∀ σ H,Pv xs.length σ H->D.nx σ H):
  ∃ W:Nat->Nat->St->Hp->Prop,(∃ m,W 0 m σ H)/\∀ i m σ H,W i m σ H->
   ((Itt K a).stop i H/\D.nx σ H)\/((Itt K a).go i H/\∃ N:St->Hp->Prop,(∀ σ' H',N σ' H'->∃ m',m' < m/\W (i+1) m' σ' H')/\∀ x H',(Itt K a).yld i H x H'->g x σ H' λ σ2 H2=>tb { D with nx:=N,ct:=N,bk:=D.nx } σ2 H2):=by
 refine ⟨λ i m σ H=>m=xs.length - i/\i<=xs.length/\Pv i σ H,⟨xs.length,by simp,Nat.zero_le _,h0⟩,?_⟩;rintro i m σ H ⟨rfl,hi,p⟩;have q:=hl i σ H hi p;by_cases hlt:i < xs.length
 ·refine .inr ⟨⟨xs,xs[i],q,by simp [hlt]⟩,Pv (i+1),λ σ' H' p'=>⟨xs.length - (i+1),by omega,rfl,hlt,p'⟩,λ x H' y=>?_⟩;obtain ⟨e,y⟩:=y;subst e;exact hs i x σ _ (y xs q) p
 ·have e:i=xs.length:=by omega
  subst e;exact .inl ⟨⟨xs,q,Nat.le_refl _⟩,hd σ H p⟩
theorem jW(Pv:Nat->St->Hp->Prop)(h0:Pv 0 σ H)(hs:∀ i σ H,i < n->Pv i σ H->g (.int (lo+i)) σ H λ σ2 H2=>tb { D with nx:=Pv (i+1),ct:=Pv (i+1),bk:=D.nx } σ2 H2)(hd:∀ σ H,Pv n σ H->D.nx σ H):
  ∃ W:Nat->Nat->St->Hp->Prop,(∃ m,W 0 m σ H)/\∀ i m σ H,W i m σ H->
   ((Itr lo n).stop i H/\D.nx σ H)\/((Itr lo n).go i H/\∃ N:St->Hp->Prop,(∀ σ' H',N σ' H'->∃ m',m' < m/\W (i+1) m' σ' H')/\∀ x H',(Itr lo n).yld i H x H'->g x σ H' λ σ2 H2=>tb { D with nx:=N,ct:=N,bk:=D.nx } σ2 H2):=by
 refine ⟨λ i m σ H=>m=n - i/\i<=n/\Pv i σ H,⟨n,by simp,Nat.zero_le _,h0⟩,?_⟩;rintro i m σ H ⟨rfl,hi,p⟩;by_cases hlt:i < n
 ·refine .inr ⟨hlt,Pv (i+1),λ σ' H' p'=>⟨n - (i+1),by omega,rfl,hlt,p'⟩,λ x H' y=>?_⟩;obtain ⟨e,y⟩:=y;subst e y;exact hs i σ _ hlt p
 ·have e:i=n:=by omega
  subst e;exact .inl ⟨Nat.le_refl _,hd σ H p⟩
noncomputable abbrev R2:=V->V->Hp->VK->Prop
variable {r':R2}
noncomputable def OpR(X:Cx)(f:Value->Value->Sem Value)(r:R2):Prop:=
 ∀ (pins:List (Addr × Obj)) (s:Shared) (σ:St) (H:Hp) (x y:V) (v u:Value) (Q:VK),Inv X pins σ H s->RelV x v->RelV y u->r x y H Q->
  wpAny (model X.prog X.w) X.A (f v u) (EP X pins σ Q) X.xe s
noncomputable def UnR(X:Cx)(f:Value->Sem Value)(r:V->Hp->VK->Prop):Prop:=
 ∀ (pins:List (Addr × Obj)) (s:Shared) (σ:St) (H:Hp) (x:V) (v:Value) (Q:VK),Inv X pins σ H s->RelV x v->r x H Q->
  wpAny (model X.prog X.w) X.A (f v) (EP X pins σ Q) X.xe s
noncomputable def CallR(X:Cx)(f:Value)(r:List V->Hp->VK->Prop):Prop:=
 ∀ (pins:List (Addr × Obj)) (s:Shared) (σ:St) (H:Hp) (xs:List V) (us:List Value) (Q:VK),Inv X pins σ H s->Vals xs us->r xs H Q->
  wpAny (model X.prog X.w) X.A (call f us) (EP X pins σ Q) X.xe s
noncomputable def xk(X:Cx)(r:V->Hp->(Bool->Hp->Prop)->Prop):Prop:=
 ∀ (pins:List (Addr × Obj)) (s:Shared) (σ:St) (H:Hp) (x:V) (v:Value) (Q:Bool->Hp->Prop),Inv X pins σ H s->RelV x v->r x H Q->
  wpAny (model X.prog X.w) X.A (truthy v) (TP X pins σ Q) X.xe s
noncomputable def tOp(r:R2)(ta tb:TE):TE:=λ σ H Q=>ta σ H λ x H1=>tb σ H1 λ y H2=>r x y H2 Q
noncomputable def tUn(r:V->Hp->VK->Prop)(ta:TE):TE:=λ σ H Q=>ta σ H λ x H1=>r x H1 Q
noncomputable def rI(C:Int->Int->Prop)(g:Int->Int->V):R2:=λ x y H Q=>∃ i j,x = .int i/\y = .int j/\C i j/\Q (g i j) H
noncomputable def rI0(g:Int->Int->V):R2:=λ x y H Q=>∃ i j,x = .int i/\y = .int j/\Q (g i j) H
noncomputable def rU(g:Int->V):V->Hp->VK->Prop:=λ x H Q=>∃ i,x = .int i/\Q (g i) H
section
variable {a b c:Expr} {tb tc:TE}
theorem lP(ha:PE X a ta)(hb:PE X b tb){R:V->V->Hp->Prop}(I:Inv X pins σ H s)(h:ta σ H λ x H1=>tb σ H1 λ y H2=>R x y H2)(hf:∀ v u s2 x y H2,Inv X pins σ H2 s2->RelV x v->RelV y u->R x y H2->wpAny (model X.prog X.w) X.A (f v u) Q X.xe s2):
  wpAny (model X.prog X.w) X.A (eval a X.env) (λ v s₁=>wpAny (model X.prog X.w) X.A (eval b X.env) (λ u s₂=>wpAny (model X.prog X.w) X.A (f v u) Q X.xe s₂) X.xe s₁) X.xe s:=by
 refine thn (ha pins s σ H _ I h) λ v s1 ⟨x,H1,I1,r1,q1⟩=>?_;refine thn (hb pins s1 σ H1 _ I1 q1) λ u s2 ⟨y,H2,I2,r2,q2⟩=>?_;exact hf v u s2 x y H2 I2 r1 r2 q2
theorem aj{op:Operator}{r:R2}(ho:OpR X (binaryOp op) r)(ha:PE X a ta)(hb:PE X b tb):PE X (.BinOp a op b pos) (tOp r ta tb):=by
 intro pins s σ H Q I h;exact wpAny_BinOp (lP ha hb I h λ v u s2 x y H2 I2 rx ry q=>ho pins s2 σ H2 x y v u Q I2 rx ry q)
theorem dl{op:UnaryOp}{r:V->Hp->VK->Prop}(ho:UnR X (unaryOp op) r)(ha:PE X a ta):PE X (.UnaryOp op a pos) (tUn r ta):=by
 intro pins s σ H Q I h;exact UnaryOp_ (thn (ha pins s σ H _ I h) λ v s1 ⟨x,H1,I1,r1,q1⟩=>ho pins s1 σ H1 x v Q I1 r1 q1)
theorem opI{C:Int->Int->Prop}{g:Int->Int->Int}(rule:∀ (i j:Int) (t u:Tok) (s:Shared) (Q:Value->Shared->Prop) (E:Value->Shared->Prop),C i j->Q (.int (g i j) s.toks) { s with toks:=s.toks+1 }->wpAny (model X.prog X.w) X.A (f (.int i t) (.int j u)) Q E s):
  OpR X f (rI C λ i j=>.int (g i j)):=by
 intro pins s σ H x y v u Q I rx ry h;obtain ⟨i,j,rfl,rfl,hc,q⟩:=h;obtain ⟨t,rfl⟩:=rx;obtain ⟨t',rfl⟩:=ry;exact rule i j t t' s _ _ hc ⟨.int (g i j),H,I.tok _,⟨_,rfl⟩,q⟩
theorem mQ{g:Int->Int->Int}(rule:∀ (i j:Int) (t u:Tok) (s:Shared) (Q:Value->Shared->Prop) (E:Value->Shared->Prop),Q (.int (g i j) s.toks) { s with toks:=s.toks+1 }->wpAny (model X.prog X.w) X.A (f (.int i t) (.int j u)) Q E s):
  OpR X f (rI0 λ i j=>.int (g i j)):=by
 intro pins s σ H x y v u Q I rx ry h;obtain ⟨i,j,rfl,rfl,q⟩:=h;obtain ⟨t,rfl⟩:=rx;obtain ⟨t',rfl⟩:=ry;exact rule i j t t' s _ _ ⟨.int (g i j),H,I.tok _,⟨_,rfl⟩,q⟩
theorem kb{g:Int->Int->Bool}(rule:∀ (i j:Int) (t u:Tok) (s:Shared) (Q:Value->Shared->Prop) (E:Value->Shared->Prop),Q (.bool (g i j)) s->wpAny (model X.prog X.w) X.A (f (.int i t) (.int j u)) Q E s):
  OpR X f (rI0 λ i j=>.bl (g i j)):=by
 intro pins s σ H x y v u Q I rx ry h;obtain ⟨i,j,rfl,rfl,q⟩:=h;obtain ⟨t,rfl⟩:=rx;obtain ⟨t',rfl⟩:=ry;exact rule i j t t' s _ _ ⟨.bl (g i j),H,I,rfl,q⟩
noncomputable def jv(i j:Int):Prop:=0 < j/\j < 1073741824
noncomputable def CMul(i j:Int):Prop:=(-(2 ^ 64) < i/\i < 2 ^ 64)\/(-(2 ^ 64) < j/\j < 2 ^ 64)
theorem CMul.ok{i j:Int}(h:CMul i j):IntMulOk i j:=by
 rcases h with ⟨h1,h2⟩ | ⟨h1,h2⟩
 ·exact .of_left (intBits_le_64 h1 h2)
 ·exact .of_right (intBits_le_64 h1 h2)
theorem zgI(k:Nat):(0:Int)<=2 ^ k:=by
 rw [two_pow_cast];exact Int.natCast_nonneg _
theorem a8:OpR X (binaryOp .Add) (rI0 λ i j=>.int (i+j)):=mQ λ _ _ _ _ _ _ _ q=>add_int q
theorem bR:OpR X (binaryOp .Sub) (rI0 λ i j=>.int (i - j)):=mQ λ _ _ _ _ _ _ _ q=>sub_int q
theorem d7:OpR X (binaryOp .Mult) (rI CMul λ i j=>.int (i * j)):=opI λ _ _ _ _ _ _ _ hc q=>mul_int q hc.ok
theorem cC:OpR X (binaryOp .FloorDiv) (rI jv λ i j=>.int (i / j)):=opI λ i j _ _ _ _ _ hc q=>by
 have h1:(0:Int) < j:=hc.1;have h2:j < 1073741824:=hc.2;exact floordiv_int (by omega) (by rw [Int.fdiv_eq_ediv_of_nonneg i (by omega)];exact q) (.inl (PyProof.noPylong_small (by omega)))
theorem bF:OpR X (binaryOp .Mod) (rI (λ _ j=>0 < j) λ i j=>.int (i % j)):=opI λ i j _ _ _ _ _ hc q=>by
 have h1:(0:Int) < j:=hc;exact mod_int' (by omega) (by rw [Int.fmod_eq_emod_of_nonneg i (by omega)];exact q)
theorem zdF:OpR X (binaryOp .RShift) (rI (λ _ j=>0<=j) λ i j=>.int (i / 2 ^ j.toNat)):=opI λ i j _ _ _ _ _ hc q=>
 rshift_int hc (by rw [Int.fdiv_eq_ediv_of_nonneg i (zgI _)];exact q)
theorem zdz:OpR X (binaryOp .BitAnd) (rI0 λ i j=>.int (Builtin.bitAnd i j)):=mQ λ _ _ _ _ _ _ _ q=>and_int q
theorem unI{f:Value->Sem Value}{g:Int->Int}(rule:∀ (i:Int) (t:Tok) (s:Shared) (Q:Value->Shared->Prop) (E:Value->Shared->Prop),Q (.int (g i) s.toks) { s with toks:=s.toks+1 }->wpAny (model X.prog X.w) X.A (f (.int i t)) Q E s):
  UnR X f (rU λ i=>.int (g i)):=by
 intro pins s σ H x v Q I rx h;obtain ⟨i,rfl,q⟩:=h;obtain ⟨t,rfl⟩:=rx;exact rule i t s _ _ ⟨.int (g i),H,I.tok _,⟨_,rfl⟩,q⟩
theorem dm:UnR X (unaryOp .USub) (rU λ i=>.int (-i)):=unI λ _ _ _ _ _ q=>neg_int q
end
noncomputable def pc:V->V->Bool
 | .non,.non=>true | .non,.int _=>true | .int _,.non=>true | .non,.bl _=>true | .bl _,.non=>true | .non,.str _=>true | .str _,.non=>true
 | .int _,.int _=>true | .bl _,.bl _=>true | .str _,.str _=>true | .byt _,.byt _=>true
 | .int _,.str _=>true | .str _,.int _=>true | .bl _,.str _=>true | .str _,.bl _=>true
 | _,_=>false
noncomputable def rEq:R2:=λ x y H Q=>pc x y=true/\Q (.bl (decide (x=y))) H
noncomputable def rNe:R2:=λ x y H Q=>pc x y=true/\Q (.bl (!decide (x=y))) H
theorem dec_int{i j:Int}:decide (V.int i=V.int j)=(i == j):=by
 rw [Bool.eq_iff_iff];simp
theorem rH{i j:Bool}:decide (V.bl i=V.bl j)=(i == j):=by
 rw [Bool.eq_iff_iff];simp
theorem rK{i j:Str}:decide (V.str i=V.str j)=(i == j):=by
 rw [Bool.eq_iff_iff];simp
theorem rJ{i j:Array UInt8}:decide (V.byt i=V.byt j)=(i.toList == j.toList):=by
 rw [Bool.eq_iff_iff];cases i;cases j;simp
section
variable {a b c:Expr} {tb tc:TE}
theorem bo{Q:VK}{k k':Bool}(I:Inv X pins σ H s)(q:Q (.bl k) H)(e:k=k'):EP X pins σ Q (.bool k') s:=by
 subst e;exact ⟨.bl k,H,I,rfl,q⟩
theorem bM:OpR X (compareOp .Eq) rEq:=by
 intro pins s σ H x y v u Q I rx ry h;obtain ⟨hs,q⟩:=h;cases x with
 | non=>
  cases rx;cases y with
  | non=>cases ry;exact PySem.EqNone.eq_none_none (bo I q (by simp))
  | bl j=>cases ry;exact PySem.EqNone.eq_none_bool (bo I q (by simp))
  | int j=>obtain ⟨t',rfl⟩:=ry;exact PySem.EqNone.eq_none_int (bo I q (by simp))
  | str j=>obtain ⟨t',rfl⟩:=ry;exact PySem.EqNone.eq_none_str (bo I q (by simp))
  | _=>exact absurd (show false=true from hs) bi
 | bl i=>
  cases rx;cases y with
  | non=>cases ry;exact PySem.EqNone.eq_bool_none (bo I q (by simp))
  | bl j=>cases ry;exact eq_bool (bo I q rH)
  | str j=>obtain ⟨t',rfl⟩:=ry;exact PySem.EqMixed.eq_bool_str (bo I q (by simp))
  | _=>exact absurd (show false=true from hs) bi
 | int i=>
  obtain ⟨t,rfl⟩:=rx;cases y with
  | non=>cases ry;exact PySem.EqNone.eq_int_none (bo I q (by simp))
  | int j=>obtain ⟨t',rfl⟩:=ry;exact eq_int (bo I q dec_int)
  | str j=>obtain ⟨t',rfl⟩:=ry;exact PySem.EqMixed.eq_int_str (bo I q (by simp))
  | _=>exact absurd (show false=true from hs) bi
 | str i=>
  obtain ⟨t,rfl⟩:=rx;cases y with
  | non=>cases ry;exact PySem.EqNone.eq_str_none (bo I q (by simp))
  | bl j=>cases ry;exact PySem.EqMixed.eq_str_bool (bo I q (by simp))
  | int j=>obtain ⟨t',rfl⟩:=ry;exact PySem.EqMixed.eq_str_int (bo I q (by simp))
  | str j=>obtain ⟨t',rfl⟩:=ry;exact eq_str (bo I q rK)
  | _=>exact absurd (show false=true from hs) bi
 | byt i=>
  obtain ⟨t,rfl⟩:=rx;cases y with
  | byt j=>obtain ⟨t',rfl⟩:=ry;exact W.eq_bytes (bo I q rJ)
  | _=>exact absurd (show false=true from hs) bi
 | _=>cases y <;> exact absurd (show false=true from hs) bi
theorem fD:OpR X (compareOp .NotEq) rNe:=by
 intro pins s σ H x y v u Q I rx ry h;obtain ⟨hs,q⟩:=h;cases x with
 | non=>
  cases rx;cases y with
  | non=>cases ry;exact PySem.EqNone.ne_none_none (bo I q (by simp))
  | bl j=>cases ry;exact PySem.EqNone.ne_none_bool (bo I q (by simp))
  | int j=>obtain ⟨t',rfl⟩:=ry;exact PySem.EqNone.ne_none_int (bo I q (by simp))
  | str j=>obtain ⟨t',rfl⟩:=ry;exact PySem.EqNone.ne_none_str (bo I q (by simp))
  | _=>exact absurd (show false=true from hs) bi
 | bl i=>
  cases rx;cases y with
  | non=>cases ry;exact PySem.EqNone.ne_bool_none (bo I q (by simp))
  | bl j=>cases ry;exact ne_bool (bo I q (congrArg not rH))
  | str j=>obtain ⟨t',rfl⟩:=ry;exact PySem.EqMixed.ne_bool_str (bo I q (by simp))
  | _=>exact absurd (show false=true from hs) bi
 | int i=>
  obtain ⟨t,rfl⟩:=rx;cases y with
  | non=>cases ry;exact PySem.EqNone.ne_int_none (bo I q (by simp))
  | int j=>obtain ⟨t',rfl⟩:=ry;exact ne_int (bo I q (congrArg not dec_int))
  | str j=>obtain ⟨t',rfl⟩:=ry;exact PySem.EqMixed.ne_int_str (bo I q (by simp))
  | _=>exact absurd (show false=true from hs) bi
 | str i=>
  obtain ⟨t,rfl⟩:=rx;cases y with
  | non=>cases ry;exact PySem.EqNone.ne_str_none (bo I q (by simp))
  | bl j=>cases ry;exact PySem.EqMixed.ne_str_bool (bo I q (by simp))
  | int j=>obtain ⟨t',rfl⟩:=ry;exact PySem.EqMixed.ne_str_int (bo I q (by simp))
  | str j=>obtain ⟨t',rfl⟩:=ry;exact ne_str (bo I q (congrArg not rK))
  | _=>exact absurd (show false=true from hs) bi
 | byt i=>
  obtain ⟨t,rfl⟩:=rx;cases y with
  | byt j=>obtain ⟨t',rfl⟩:=ry;exact W.ne_bytes (bo I q (congrArg not rJ))
  | _=>exact absurd (show false=true from hs) bi
 | _=>cases y <;> exact absurd (show false=true from hs) bi
theorem kd:OpR X (compareOp .Lt) (rI0 λ i j=>.bl (decide (i < j))):=kb λ _ _ _ _ _ _ _ q=>lt_int q
theorem kc:OpR X (compareOp .LtE) (rI0 λ i j=>.bl (decide (i<=j))):=kb λ _ _ _ _ _ _ _ q=>le_int q
theorem dh:OpR X (compareOp .Gt) (rI0 λ i j=>.bl (decide (j < i))):=kb λ _ _ _ _ _ _ _ q=>gt_int q
theorem mR:OpR X (compareOp .GtE) (rI0 λ i j=>.bl (decide (j<=i))):=kb λ _ _ _ _ _ _ _ q=>ge_int q
theorem d5:OpR X (compareOp .Is) (λ x y H Q=>y = .non/\Q (.bl (decide (x = .non))) H):=by
 intro pins s σ H x y v u Q I rx ry h;obtain ⟨rfl,q⟩:=h;cases ry;refine is_none_gen (bo I q ?_);cases x <;> first
  | (cases rx;rfl)
  | (obtain ⟨t,rfl⟩:=rx;rfl)
theorem jb:OpR X (compareOp .IsNot) (λ x y H Q=>y = .non/\Q (.bl (!decide (x = .non))) H):=by
 intro pins s σ H x y v u Q I rx ry h;obtain ⟨rfl,q⟩:=h;cases ry;refine isnot_none_gen (bo I q ?_);cases x <;> first
  | (cases rx;rfl)
  | (obtain ⟨t,rfl⟩:=rx;rfl)
theorem OpR.or{r:R2}(h:OpR X f r)(h':OpR X f r'):OpR X f (λ x y H Q=>r x y H Q\/r' x y H Q):=by
 intro pins s σ H x y v u Q I rx ry q;rcases q with q | q
 ·exact h pins s σ H x y v u Q I rx ry q
 ·exact h' pins s σ H x y v u Q I rx ry q
theorem aF(b:Expr)(h:op≠.In:=by decide)(h2:op≠.NotIn:=by decide):behindInMarks op b=false:=by
 have e1:(op == CmpOp.In)=false:=by cases op <;> first | rfl | exact absurd rfl h
 have e2:(op == CmpOp.NotIn)=false:=by cases op <;> first | rfl | exact absurd rfl h2
 cases b <;> simp [behindInMarks,e1,e2]
theorem fE{r:R2}(ho:OpR X (compareOp op) r)(ha:PE X a ta)(hb:PE X b tb)(hm:behindInMarks op b=false):PE X (.Compare a [op] [b] pos) (tOp r ta tb):=by
 intro pins s σ H Q I h;exact wpAny_Compare1 (lP ha hb I h λ v u s2 x y H2 I2 rx ry q=>ho pins s2 σ H2 x y v u Q I2 rx ry q) hm
noncomputable def jt(t:TE):TT:=λ σ H Q=>t σ H λ x H'=>∃ k,x = .bl k/\Q k H'
theorem aG{r:R2}(ho:OpR X (compareOp op) r)(ha:PE X a ta)(hb:PE X b tb)(hm:behindInMarks op b=false):PT X (.Compare a [op] [b] pos) (jt (tOp r ta tb)):=by
 intro pins s σ H Q I h;refine wpAny_isTrue_Compare1 (thn (ha pins s σ H _ I h) λ v s1 ⟨x,H1,I1,r1,q1⟩=>thn (hb pins s1 σ H1 _ I1 q1) λ u s2 ⟨y,H2,I2,r2,q2⟩=>
  thn (ho pins s2 σ H2 x y v u _ I2 r1 r2 q2) λ c s3 ⟨z,H3,I3,r3,k,e,q3⟩=>?_) hm
 subst e;cases r3;exact wpAny_truthy_bool ⟨H3,I3,q3⟩
noncomputable def zf3(r r':R2)(ta tb tc:TE):TE:=λ σ H Q=>ta σ H λ x H1=>tb σ H1 λ y H2=>r x y H2 λ z H3=>∃ k,z = .bl k/\
 (if k=true then tc σ H3 λ w' H4=>r' y w' H4 Q else Q (.bl false) H3)
theorem tQ{op':CmpOp}{r:R2}(ho:OpR X (compareOp op) r)(ho':OpR X (compareOp op') r')(ha:PE X a ta)(hb:PE X b tb)(hc:PE X c tc)(hm:lastMarks [op,op'] [b,c]=false:=by with_unfolding_all rfl):PE X (.Compare a [op,op'] [b,c] pos) (zf3 r r' ta tb tc):=by
 intro pins s σ H Q I h;refine Compare_chain (thn (ha pins s σ H _ I h) λ v s1 ⟨x,H1,I1,r1,q1⟩=>chain_link (thn (hb pins s1 σ H1 _ I1 q1) λ u s2 ⟨y,H2,I2,r2,q2⟩=>
  thn (ho pins s2 σ H2 x y v u _ I2 r1 r2 q2) λ d s3 ⟨z,H3,I3,r3,k,e,q3⟩=>?_)) hm
 subst e;cases r3;refine wpAny_truthy_bool ?_;cases k with
 | false=>exact ite_ff ⟨.bl false,H3,I3,rfl,q3⟩
 | true=>exact ite_tt (chain_last (thn (hc pins s3 σ H3 _ I3 q3) λ w' s4 ⟨z',H4,I4,r4,q4⟩=>ho' pins s4 σ H4 y z' u w' Q I4 r2 r4 q4))
noncomputable def lH(K:W.Frag)(x:V)(H:Hp)(k:Bool):Prop:=
 match x with
 | .non=>k=false
 | .bl b=>k=b
 | .int i=>k=(i != 0)
 | .str y=>y.length<=sizeLine/\k=((y.length:Int) != 0)
 | .byt y=>y.size<=sizeLine/\k=((y.size:Int) != 0)
 | .ref p=>(∃ xs,SqL K H p xs/\k = !xs.isEmpty)\/(∃ xs,SqT K H p xs/\k = !xs.isEmpty)\/∃ kvs,H p=some (.dK kvs)/\k = !kvs.isEmpty
 | _=>False
theorem zU{kvs:List (κ × V)}{vs:List (κ × Value)}(r:KV kvs vs):(!vs.isEmpty) = !kvs.isEmpty:=by
 cases r <;> rfl
theorem sA(r:Vals xs its):(!its.toArray.isEmpty) = !xs.isEmpty:=by
 cases r <;> simp
theorem gv:(sizeLine:Nat) < 2 ^ 63:=by rw [sizeLine_eq];decide
theorem vW:xk X (λ x H Q=>∃ k,lH X.K x H k/\Q k H):=by
 intro pins s σ H x v Q I rx h;obtain ⟨k,e,q⟩:=h;have hl:=gv;have hs:sizeLine=16777216:=sizeLine_eq;cases x with
 | non=>
  cases rx;have e':k=false:=e;subst e';exact truthy_none ⟨H,I,q⟩
 | bl b=>
  cases rx;have e':k=b:=e;subst e';exact wpAny_truthy_bool ⟨H,I,q⟩
 | int i=>
  obtain ⟨t,rfl⟩:=rx;have e':k=(i != 0):=e;subst e';exact PySem.P.truthy_int ⟨H,I,q⟩
 | str y=>
  obtain ⟨t,rfl⟩:=rx;obtain ⟨hy,e'⟩:y.length<=sizeLine/\k=((y.length:Int) != 0):=e;subst e';exact PySem.P.truthy_str (by omega) ⟨H,I.tok _,q⟩
 | byt y=>
  obtain ⟨t,rfl⟩:=rx;obtain ⟨hy,e'⟩:y.size<=sizeLine/\k=((y.size:Int) != 0):=e;subst e';exact W.truthy_bytes (by omega) ⟨H,I.tok _,q⟩
 | ref p=>
  cases rx;have e':(∃ xs,SqL X.K H p xs/\k = !xs.isEmpty)\/(∃ xs,SqT X.K H p xs/\k = !xs.isEmpty)\/∃ kvs,H p=some (.dK kvs)/\k = !kvs.isEmpty:=e;rcases e' with ⟨xs,hx,e'⟩ | ⟨xs,hx,e'⟩ | ⟨kvs,hx,e'⟩
  ·subst e';obtain ⟨its,r,pl,hz⟩:=I.list hx;have hlen:=r.length;exact wpAny_truthy_list pl.isList (by simp only [aW];omega) ⟨H,I.tok _,by rw [sA r];exact q⟩
  ·subst e';obtain ⟨its,r,pl,hz⟩:=I.tuple hx;have hlen:=r.length;exact truthy_tuple pl (by simp only [aW];omega) ⟨H,I.tok _,by rw [sA r];exact q⟩
  ·subst e';obtain ⟨hz,hS,vs,r,m⟩:kvs.length<=sizeLine/\(p == sysModules)=false/\∃ vs,KV kvs vs/\s.heap.DictOf (cf X.prog X.w) p vs:=I.hok p _ hx;have hlen:kvs.length=vs.length:=Paired.length r;exact wpAny_truthy_dict hS m (by omega) ⟨H,I.tok _,by rw [zU r];exact q⟩
 | _=>exact (show False from e).elim
theorem zem(ha:PE X a ta)(he:∀ whole,isTrue a X.env whole=(do let v ← whole;standAt a.pos;holding [v] (truthy v))):
  PT X a (λ σ H Q=>ta σ H λ x H'=>∃ k,lH X.K x H' k/\Q k H'):=by
 intro pins s σ H Q I h;exact isTrue_plain (thn (ha pins s σ H _ I h) λ v s1 ⟨x,H1,I1,r1,q1⟩=>vW pins s1 σ H1 x v Q I1 r1 q1) (he _)
theorem fC:OpR X (binaryOp .Add) (λ x y H Q=>∃ i j,x = .str i/\y = .str j/\i.length+j.length<=sizeLine/\Q (.str (i++j)) H):=by
 intro pins s σ H x y v u Q I rx ry h;obtain ⟨i,j,rfl,rfl,hz,q⟩:=h;obtain ⟨t,rfl⟩:=rx;obtain ⟨t',rfl⟩:=ry;exact add_str (λ t' tk=>⟨.str (i++j),H,I.tok _,⟨_,rfl⟩,q⟩) hz
theorem db{x:V}(r:Vals [x] us):∃ u,us=[u]/\RelV x u:=by
 cases r with
 | cons r1 r2=>cases r2;exact ⟨_,rfl,r1⟩
theorem iG{x y:V}(r:Vals [x,y] us):∃ u w',us=[u,w']/\RelV x u/\RelV y w':=by
 cases r with
 | cons r1 r2=>
  cases r2 with
  | cons r3 r4=>cases r4;exact ⟨_,_,rfl,r1,r3⟩
theorem qZ(hc:X.calm=true):CallR X (.builtin "max") (λ xs H Q=>∃ i j,xs=[.int i,.int j]/\Q (.int (if j > i then j else i)) H):=by
 intro pins s σ H xs us Q I r h;obtain ⟨i,j,rfl,q⟩:=h;obtain ⟨u,w',rfl,⟨t,rfl⟩,⟨t',rfl⟩⟩:=iG r;refine max_two_ints (I.ok.hd hc) λ h' tk k=>⟨_,H,I.kept k,?_,q⟩
 by_cases hj:j > i
 ·rw [if_pos hj,if_pos hj];exact ⟨_,rfl⟩
 ·rw [if_neg hj,if_neg hj];exact ⟨_,rfl⟩
theorem yb(hc:X.calm=true):CallR X (.builtin "min") (λ xs H Q=>∃ i j,xs=[.int i,.int j]/\Q (.int (if j < i then j else i)) H):=by
 intro pins s σ H xs us Q I r h;obtain ⟨i,j,rfl,q⟩:=h;obtain ⟨u,w',rfl,⟨t,rfl⟩,⟨t',rfl⟩⟩:=iG r;refine min_two_ints (I.ok.hd hc) λ h' tk k=>⟨_,H,I.kept k,?_,q⟩
 by_cases hj:j < i
 ·rw [if_pos hj,if_pos hj];exact ⟨_,rfl⟩
 ·rw [if_neg hj,if_neg hj];exact ⟨_,rfl⟩
theorem xZ:CallR X (.type "int") (λ xs H Q=>(∃ i,xs=[.int i]/\Q (.int i) H)\/∃ k,xs=[.bl k]/\Q (.int (if k then 1 else 0)) H):=by
 intro pins s σ H xs us Q I r h;rcases h with ⟨i,rfl,q⟩ | ⟨k,rfl,q⟩
 ·obtain ⟨u,rfl,t,rfl⟩:=db r;exact call_int_int ⟨.int i,H,I,⟨_,rfl⟩,q⟩
 ·obtain ⟨u,rfl,r1⟩:=db r;cases r1;exact call_int_bool ⟨.int (if k then 1 else 0),H,I.tok _,⟨_,rfl⟩,q⟩
end
structure ObjM (h:Heap) (x dx C:Addr) (mA:Str->Option Value):Prop where
 obj:h.get? x=some (W.instObj C dx)
 ns:h.Ns1 dx mA
 ne:dx≠x
theorem zav(n:h.Ns1 dx mA):∃ od,h.get? dx=some od/\∀ name,W.lookIn name od=some (mA name):=by
 obtain ⟨o,es,ep,ho,hd,hk,_,hm⟩:=n;refine ⟨o,ho,λ name=>?_⟩;have e:=hm name;unfold nsFind findBy at e;rw [← Array.find?_toList] at e;unfold W.lookIn;rw [hd];dsimp only
 split
 ·rename_i y q
  rw [q] at e;exact congrArg some e
 ·rename_i q
  rw [q] at e;have a:es.toList.any (·.refKey)=false:=by
   rw [List.any_eq_false];intro y hy;obtain ⟨z,t,hkey⟩:=hk y (Array.mem_toList_iff.mp hy);simp [DictEntry.refKey,hkey]
  have a':¬ es.toList.any (·.refKey)=true:=by rw [a];exact bi
  rw [if_neg a'];exact congrArg some e
theorem ObjM.look{x:Addr}(I:ObjM h x dx C mA):∃ od,W.InstAt h x (W.instObj C dx) C (some od)/\∀ name,W.lookIn name od=some (mA name):=
 let ⟨od,ho,hl⟩:=zav I.ns
 ⟨od,⟨I.obj,rfl,rfl,ho⟩,hl⟩
section
variable {x f:Addr}
theorem zi{expr:Bool}(X:K.In s.heap)(I:ObjM s.heap x dx C mA)(hg:W.plainGet K C name=true)(hh:W.hasDictIn K C=true)(ha:W.findIn K (.ref C) name=some none)(hv:mA name=some v)(hv':W.handedIn v=true)(h:Q v { s with toks:=s.toks+1 }):
  wpAny (model prog w) A (getAttr (.ref x) name expr) Q E s:=by
 obtain ⟨od,J,hl⟩:=I.look;exact W.get_value X J (W.plainGet_of hg).1 (W.findObj_own hh ha rfl (by rw [hl,hv])) hv' h
theorem zj{Q:Value × List Value->Shared->Prop}(X:K.In s.heap)(I:ObjM s.heap x dx C mA)(hg:W.plainGet K C name=true)(hf:W.findIn K (.ref C) name=some (some (.ref f)))(ht:W.isFn K (.ref f)=true)(hv:mA name=none)(h:Q (.ref f,[.ref x]) s):
  wpAny (model prog w) A (getMethod (.ref x) name pl) Q E s:=by
 obtain ⟨od,J,hl⟩:=I.look;exact W.method_fn X J (W.plainGet_of hg).1 (W.plainGet_of hg).2 hf (beq_iff_eq.mp ht) (by show (W.lookIn name od).map (·.isSome)=some false;rw [hl,hv];rfl) h
theorem zfE{ns:List Str}{Q:Unit->Shared->Prop}(X:K.In s.heap)(I:ObjM s.heap x dx C mA)(hs:W.findIn K (.ref C) "__setattr__" = some (some (.builtin "object.__setattr__")))(hp:W.plainOver K C=true)(ht:W.takerIn K C name=some none)(hh:W.hasDictIn K C=true)(hw:PySem.Within mA ns)(hsz:ns.length<=sizeLine)(h:∀ h',ObjM h' x dx C (λ y=>if y=name then some v else mA y)->Heap.SameBut dx s.heap h'->Q () { s with heap:=h',toks:=s.toks+2 }):
  wpAny (model prog w) A (setAttr (.ref x) name v) Q E s:=by
 obtain ⟨od,J,hl⟩:=I.look;refine W.set_plain X J hs (W.osa_open (s:={ s with toks:=s.toks+1 }) (r:=none) X J hp ht λ b=>?_);obtain ⟨cd,hc,hd'⟩:=W.any_some hh;have hx:s.heap.get? x=some ⟨.ref C,some dx,.plain,#[]⟩:=I.obj;refine ah (aC (ah (ah (wpAny_loadPart hx (ah (W.Looks.here (s:={ s with toks:=s.toks+1 }) (W.looks_clsIn X hc) ?_))))));rw [hd'];refine aC (a:=some dx) (ah (aC (ah ?_)));refine wpAny_nsSet1 (s:={ s with toks:=s.toks+1 }) I.ns λ h' hn2 hs2=>?_;obtain ⟨oD,esD,epD,hoD,hdD,hcD⟩:=hn2.count (PySem.Within.cons name v hw);refine ah (wpAny_lookBehind hoD (by rw [hdD];exact pastItsLine_dict (Nat.le_trans hcD (by rw [List.length_cons];omega))) ?_);exact aC (h _ ⟨(hs2.2 _ (Ne.symm I.ne)).trans I.obj,hn2,I.ne⟩ hs2)
theorem zaX(X:K.In s.heap)(hm:W.makesIn K C=true)(hi:W.findIn K (.ref C) "__init__" = some (some (.ref f)))(hf:W.typeIn K (.ref f)=some (.type "function"))(h:codeAny (model prog w) (A.under (.builtin "type.__call__" ⟨.ref C::vs,kw⟩)) (.call (.ref f) ⟨.ref (s.heap.objs.size+1)::vs,kw⟩) (W.InitBack (s.heap.objs.size+1) R)
   { s with heap:=(s.heap.push W.emptyDict).push (W.instObj C s.heap.objs.size) }):
  codeAny (model prog w) A (.call (.ref C) ⟨vs,kw⟩) R s:=by
 obtain ⟨hh,g,d,t,os⟩:=s;exact W.make_core (W.makes_of X hm) (W.looks_findIn X hi) (λ self=>W.bind_fn X self hf) (.inl rfl) h
end
noncomputable def cX(f:Str)(v:V):List (Str × V)->List (Str × V)
 | []=>[(f,v)]
 | (g,x)::r=>if g=f then (g,v)::r else (g,x)::cX f v r
theorem sQ(f g:Str)(v:V):∀ fs:List (Str × V),(cX f v fs).lookup g=if g=f then some v else fs.lookup g
 | []=>by
  show List.lookup g [(f,v)]=_;by_cases h:g=f
  ·have hb:(g == f)=true:=beq_iff_eq.mpr h;simp only [List.lookup,hb,if_pos h]
  ·have hb:(g == f)=false:=beq_eq_false_iff_ne.mpr h;simp only [List.lookup,hb,if_neg h]
 | (k,x)::r=>by
  have ih:=sQ f g v r;rw [show cX f v ((k,x)::r)=(if k=f then (k,v)::r else (k,x)::cX f v r) from rfl];by_cases hk:k=f
  ·rw [if_pos hk];by_cases h:g=k
   ·have hb:(g == k)=true:=beq_iff_eq.mpr h;simp only [List.lookup,hb,if_pos (h.trans hk)]
   ·have hb:(g == k)=false:=beq_eq_false_iff_ne.mpr h;simp only [List.lookup,hb,if_neg (λ e:g=f=>h (e.trans hk.symm))]
  ·rw [if_neg hk];by_cases h:g=k
   ·have hb:(g == k)=true:=beq_iff_eq.mpr h;simp only [List.lookup,hb,if_neg (λ e:g=f=>hk (h.symm.trans e))]
   ·have hb:(g == k)=false:=beq_eq_false_iff_ne.mpr h;simp only [List.lookup,hb];exact ih
theorem my(f:Str)(v:V):∀ fs:List (Str × V),f∈(cX f v fs).map (·.1)/\∀ g,g∈fs.map (·.1)->g∈(cX f v fs).map (·.1)
 | []=>⟨by simp [cX],λ g h=>by simp at h⟩
 | (k,x)::r=>by
  obtain ⟨i1,i2⟩:=my f v r;rw [show cX f v ((k,x)::r)=(if k=f then (k,v)::r else (k,x)::cX f v r) from rfl];by_cases hk:k=f
  ·rw [if_pos hk];subst hk;exact ⟨by simp,λ g h=>by simpa using h⟩
  ·rw [if_neg hk];refine ⟨?_,λ g h=>?_⟩
   ·rw [List.map_cons];exact bp _ i1
   ·rw [List.map_cons] at h ⊢;rcases al_mc.mp h with e | e
    ·exact al_mc.mpr (.inl e)
    ·exact bp _ (i2 g e)
theorem sN(f:Str)(v:V):∀ fs:List (Str × V),(cX f v fs).length<=fs.length+1
 | []=>by simp [cX]
 | (k,x)::r=>by
  have ih:=sN f v r;rw [show cX f v ((k,x)::r)=(if k=f then (k,v)::r else (k,x)::cX f v r) from rfl];by_cases hk:k=f
  ·rw [if_pos hk,List.length_cons,List.length_cons];omega
  ·rw [if_neg hk,List.length_cons,List.length_cons];omega
theorem RelO.some_of{v:V}{o:Option Value}(r:RelO (some v) o):∃ u,o=some u/\RelV v u:=by
 cases o with
 | none=>exact (show False from r).elim
 | some u=>exact ⟨u,rfl,r⟩
theorem RelO.none_of{o:Option Value}(r:RelO none o):o=none:=by
 cases o with
 | none=>rfl
 | some u=>exact (show False from r).elim
theorem zo{v:V}(r:RelV v u):W.handedIn u=true:=by
 cases v with
 | non=>cases (show u=Value.none from r);rfl
 | bl b=>cases (show u=Value.bool b from r);rfl
 | int i=>obtain ⟨t,e⟩:=(show ∃ t,u=Value.int i t from r);cases e;rfl
 | str x=>obtain ⟨t,e⟩:=(show ∃ t,u=Value.str x t from r);cases e;rfl
 | byt b=>obtain ⟨t,e⟩:=(show ∃ t,u=Value.bytes b t from r);cases e;rfl
 | flt b=>obtain ⟨t,e⟩:=(show ∃ t,u=Value.float b t from r);cases e;rfl
 | ref a=>cases (show u=Value.ref a from r);rfl
 | ty n=>cases (show u=Value.type n from r);rfl
section
variable {fs fs':List (Str × V)}
theorem j4(hok:HOk P w H h)(e:H a=some (.ins C dx fs)):∃ mA,ObjM h a dx C mA/\(∀ f,RelO (fs.lookup f) (mA f))/\PySem.Within mA (fs.map (·.1))/\fs.length<=1000/\H dx=some (.own a):=by
 obtain ⟨d,z,ne,ob,mA,n,r,q⟩:=(show ObjOk P w H h a (.ins C dx fs) from hok a _ e)
 exact ⟨mA,⟨ob,n,ne⟩,r,q,z,d⟩
end
structure Cls (K:W.Frag) (C:Addr):Prop where
 pg:W.plainGet K C Str.empty=true
 hd:W.hasDictIn K C=true
 po:W.plainOver K C=true
 sa:W.findIn K (.ref C) "__setattr__" = some (some (.builtin "object.__setattr__"))
theorem Cls.get(c:Cls K C)(f:Str):W.plainGet K C f=true:=c.pg
noncomputable def NoAttr(K:W.Frag)(C:Addr)(f:Str):Prop:=W.findIn K (.ref C) f=some none
theorem NoAttr.taker{f:Str}(n:NoAttr K C f):W.takerIn K C f=some none:=by
 unfold W.takerIn;rw [show W.findIn K (.ref C) f=some none from n];rfl
structure gQ (K:W.Frag) (C:Addr) (m:Str) (f:Addr):Prop where
 at_:W.findIn K (.ref C) m=some (some (.ref f))
 fn:W.isFn K (.ref f)=true
 kp:W.keepIn K (.ref f)=true
section
variable {fs:List (Str × V)} {f:Str} {v:V}
theorem sk{b:Bool}(I:Inv X pins σ H s)(e:H a=some (.ins C dx fs))(c:Cls X.K C)(n:NoAttr X.K C f)(l:fs.lookup f=some v)(h:∀ u s',Inv X pins σ H s'->RelV v u->Q u s'):wpAny (model X.prog X.w) A (getAttr (.ref a) f b) Q E s:=by
 obtain ⟨mA,O,r,_,_,_⟩:=j4 I.hok e;obtain ⟨u,hu,ru⟩:=RelO.some_of (v:=v) (o:=mA f) (by rw [← l];exact r f);exact zi I.kIn O (c.get f) c.hd n hu (zo ru) (h u _ (I.tok _) ru)
theorem mt{m:Str}{g:Addr}{Q:Value × List Value->Shared->Prop}(I:Inv X pins σ H s)(e:H a=some (.ins C dx fs))(c:Cls X.K C)(k:gQ X.K C m g)(l:fs.lookup m=none)(h:Q (.ref g,[.ref a]) s):wpAny (model X.prog X.w) A (getMethod (.ref a) m pl) Q E s:=by
 obtain ⟨mA,O,r,_,_,_⟩:=j4 I.hok e;have hn:mA m=none:=RelO.none_of (by rw [← l];exact r m);exact zj I.kIn O (c.get m) k.at_ k.fn hn h
theorem uL{y:V}{Q:Unit->Shared->Prop}(I:Inv X pins σ H s)(e:H a=some (.ins C dx fs))(c:Cls X.K C)(n:NoAttr X.K C f)(hl:fs.length < 1000)(ry:RelV y u)(h:∀ s',Inv X pins σ (upd H a (.ins C dx (cX f y fs))) s'->Q () s'):wpAny (model X.prog X.w) A (setAttr (.ref a) f u) Q E s:=by
 obtain ⟨mA,O,r,wi,_,ho⟩:=j4 I.hok e;have hz:(fs.map (·.1)).length<=sizeLine:=by rw [ag,sizeLine_eq];omega
 refine zfE I.kIn O c.sa c.po n.taker c.hd wi hz λ h' O' sb=>h _ ?_;have hd:∃ o,h'.get? dx=some o:=let ⟨o,_,_,e',_⟩:=O'.ns;⟨o,e'⟩;refine I.write (x:=a) (e:=dx) (by rw [e];exact True.intro) (.inr ho) (λ b q hb z=>(sb.2 b hb).trans z) hd ?_;refine ⟨by rw [ai O.ne];exact ho,?_,O.ne,O'.obj,_,O'.ns,λ g=>?_,λ g hg=>?_⟩
 ·have:=sN f y fs;omega
 ·show RelO ((cX f y fs).lookup g) (if g=f then some u else mA g);rw [sQ];by_cases q:g=f
  ·rw [if_pos q,if_pos q];exact ry
  ·rw [if_neg q,if_neg q];exact r g
 ·by_cases q:g=f
  ·rw [q];exact (my f y fs).1
  ·refine (my f y fs).2 g (wi g λ z=>hg ?_);show (if g=f then some u else mA g)=none;rw [if_neg q];exact z
theorem Inv.made(I:Inv X pins σ H s):Inv X pins σ (upd (upd H s.heap.objs.size (.own (s.heap.objs.size+1))) (s.heap.objs.size+1) (.ins C s.heap.objs.size []))
  { s with heap:=(s.heap.push W.emptyDict).push (W.instObj C s.heap.objs.size) }:=by
 have e1:(s.heap.push W.emptyDict).get? s.heap.objs.size=some W.emptyDict:=Heap.get?_push_size s.heap rfl;have e2:((s.heap.push W.emptyDict).push (W.instObj C s.heap.objs.size)).get? (s.heap.objs.size+1)=some (W.instObj C s.heap.objs.size):=by
  have:=Heap.get?_push_size (s.heap.push W.emptyDict) (o:=W.instObj C s.heap.objs.size) rfl
  rwa [Heap.size_push] at this
 have e3:(s.heap.push W.emptyDict).Ns s.heap.objs.size (λ _=>none):=⟨W.emptyDict,#[],_,e1,rfl,(λ e he=>absurd he (by simp)),λ _=>rfl⟩
 have I1:=I.laid (a:=s.heap.objs.size) (o:=.own (s.heap.objs.size+1)) (h':=s.heap.push W.emptyDict) (t':=s.toks) (λ b u q=>aU _ q) (Nat.le_refl _) ⟨_,e1⟩;refine I1.laid (a:=s.heap.objs.size+1) (o:=.ins C s.heap.objs.size []) (t':=s.toks) (λ b u q=>aU _ q) (Nat.le_of_eq (Heap.size_push _ _)) ?_;have ne:s.heap.objs.size≠s.heap.objs.size+1:=Nat.ne_of_lt (Nat.lt_succ_self _);refine ⟨by rw [ai ne,af],Nat.zero_le _,ne,e2,λ _=>none,(Heap.Ns1.of_empty e3).at λ o q=>aU _ q,λ _=>True.intro,λ y hy=>absurd rfl hy⟩
theorem xr{f:Str}(hb:attributeBase e f env (eval e env)=eval e env)(h:wpAny (model prog w) A (eval e env) (λ o s₁=>wpAny (model prog w) A (getAttr o f true) Q E s₁) E s):wpAny (model prog w) A (eval (.Attribute e f pos) env) Q E s:=
 Attribute_any_ h (by rw [arm_eval_Attribute,hb])
end
noncomputable def fN(K:W.Frag)(ta:TE)(f:Str):TE:=λ σ H Q=>ta σ H λ x H1=>∃ a C dx fs v,x = .ref a/\H1 a=some (.ins C dx fs)/\Cls K C/\NoAttr K C f/\fs.lookup f=some v/\Q v H1
noncomputable def jl(K:W.Frag)(ta tv:TE)(f:Str):TS:=λ D σ H=>tv σ H λ y H1=>ta σ H1 λ x H2=>∃ a C dx fs,x = .ref a/\H2 a=some (.ins C dx fs)/\Cls K C/\NoAttr K C f/\fs.length < 1000/\
 D.nx σ (upd H2 a (.ins C dx (cX f y fs)))
noncomputable def qg(X:Cx)(op:Operator)(rd:V->V->Hp->VK->Prop):Prop:=
 ∀ (pins:List (Addr × Obj)) (s:Shared) (σ:St) (H:Hp) (x y:V) (u v:Value) (Q:VK),Inv X pins σ H s->RelV x u->RelV y v->rd x y H Q->wpAny (model X.prog X.w) X.A (inplaceOp op u v) (EP X pins σ Q) X.xe s
noncomputable def uI(K:W.Frag)(ta tv:TE)(rd:V->V->Hp->VK->Prop)(f:Str):TS:=λ D σ H=>ta σ H λ x H1=>∃ a C dx fs v,x = .ref a/\H1 a=some (.ins C dx fs)/\Cls K C/\NoAttr K C f/\fs.lookup f=some v/\
 tv σ H1 λ y H2=>rd v y H2 λ z H3=>∃ dx' fs',H3 a=some (.ins C dx' fs')/\fs'.length < 1000/\D.nx σ (upd H3 a (.ins C dx' (cX f z fs')))
section
variable {o:Expr} {f:Str}
theorem cn(he:PE X e ta)(hb:attributeBase e f X.env (eval e X.env)=eval e X.env):PE X (.Attribute e f pos) (fN X.K ta f):=by
 intro pins s σ H Q I h;refine xr hb (thn (he pins s σ H _ I h) λ u s1 ⟨x,H1,I1,rx,a,C,dx,fs,v,ex,ea,c,n,l,q⟩=>?_);subst ex;obtain rfl:u=Value.ref a:=rx;exact sk I1 ea c n l λ u' s2 I2 ru=>⟨v,H1,I2,ru,q⟩
theorem c6(ha:PE X o ta)(hv:PE X value tv)(hs:swapsWith value (some (.Attribute o f pos')) pos.line X.env=pure false):PS X (.Assign [.Attribute o f pos'] value pos) (jl X.K ta tv f):=by
 intro pins s σ H D I h;refine plainObj_wpAny_Assign_Attribute (thn (hv pins s σ H _ I h) λ u s1 ⟨y,H1,I1,ry,q⟩=>thn (ha pins s1 σ H1 _ I1 q) λ ov s2 ⟨x,H2,I2,rx,a,C,dx,fs,ex,ea,c,n,l,q2⟩=>?_) hs;subst ex;obtain rfl:ov=Value.ref a:=rx;exact uL I2 ea c n l ry λ s3 I3=>⟨σ,_,I3,q2⟩
theorem ub{op:Operator}{rd:V->V->Hp->VK->Prop}(ha:PE X o ta)(hv:PE X value tv)(hop:qg X op rd):PS X (.AugAssign (.Attribute o f tpos) op value pos) (uI X.K ta tv rd f):=by
 intro pins s σ H D I h;refine wpAny_AugAssign_AttributeAny (thn (ha pins s σ H _ I h) λ ov s1 ⟨x,H1,I1,rx,a,C,dx,fs,v,ex,ea,c,n,l,q⟩=>?_);subst ex;obtain rfl:ov=Value.ref a:=rx;refine sk I1 ea c n l λ u s2 I2 ru=>thn (hv pins s2 σ H1 _ I2 q) λ w3 s3 ⟨y,H2,I3,ry,q3⟩=>thn (hop pins s3 σ H2 v y u w3 _ I3 ru ry q3) λ w4 s4 ⟨z,H3,I4,rz,dx',fs',ea',l',q4⟩=>?_;exact uL I4 ea' c n l' rz λ s5 I5=>⟨σ,_,I5,q4⟩
noncomputable def ug:V->V->Hp->VK->Prop:=λ x y H Q=>∃ i j,x = .int i/\y = .int j/\Q (.int (i+j)) H
theorem su:qg X .Add ug:=by
 rintro pins s σ H x y u v Q I rx ry ⟨i,j,rfl,rfl,q⟩;obtain ⟨t,rfl⟩:=(show ∃ t,u=Value.int i t from rx)
 obtain ⟨t',rfl⟩:=(show ∃ t',v=Value.int j t' from ry)
 exact PyProof.Rows.iadd_int ⟨.int (i+j),H,I.tok _,⟨_,rfl⟩,q⟩
theorem zho{m:Str}{args:List Expr}(he:PE X e te)(I:Inv X pins σ H s)(h:te σ H λ x H1=>∃ a C dx fs g,x = .ref a/\H1 a=some (.ins C dx fs)/\Cls X.K C/\gQ X.K C m g/\fs.lookup m=none/\
   ∀ s1,Inv X pins σ H1 s1->wpAny (model X.prog X.w) X.A (callWith pos (.ref g) [.ref a] (backTo pos (starEach args X.env)) (backToKw pos (keywordEach [] X.env))) Q X.xe s1)(ht:eval (.Call (.Attribute e m apos) args [] pos) X.env=(do
   let ov ← eval e X.env
   standAt apos.atName
   let (f,first) ← holding [ov] (getMethod ov m pl)
   callWith pos f first (backTo pos (starEach args X.env)) (backToKw pos (keywordEach [] X.env)))):
  wpAny (model X.prog X.w) X.A (eval (.Call (.Attribute e m apos) args [] pos) X.env) Q X.xe s:=by
 refine W.methodCall_KW (pl:=pl) (thn (he pins s σ H _ I h) λ u s1 ⟨x,H1,I1,rx,a,C,dx,fs,g,ex,ea,c,k,l,q⟩=>?_) ht;subst ex;obtain rfl:u=Value.ref a:=rx;exact mt I1 ea c k l (q s1 I1)
end
section
variable {c:Value} {b:Bool}
inductive dq (K:W.Frag) (H:Hp):V->Value->Prop where
 | non:dq K H .non (.type "NoneType")
 | bl (x:Bool):dq K H (.bl x) (.type "bool")
 | int (i:Int):dq K H (.int i) (.type "int")
 | str (x:Str):dq K H (.str x) (.type "str")
 | flt (x:UInt64):dq K H (.flt x) (.type "float")
 | lst {a:Addr} {xs:List V} (e:H a=some (.lst xs)):dq K H (.ref a) (.type "list")
 | frz {a:Addr} {o:Obj} {xs:List V} (e:H a=some (.frz o (.lst xs))):dq K H (.ref a) (.type "list")
 | tup {a:Addr} {xs:List V} (e:H a=some (.tup xs)):dq K H (.ref a) (.type "tuple")
 | dK {a:Addr} {kvs:List (Key × V)} (e:H a=some (.dK kvs)):dq K H (.ref a) (.type "dict")
 | dT {a:Addr} {kvs:List (List Key × V)} (e:H a=some (.dT kvs)):dq K H (.ref a) (.type "dict")
 | ins {a C dx:Addr} {fs:List (Str × V)} (e:H a=some (.ins C dx fs)) (cl:Cls K C) (ha:W.findIn K (.ref C) "__class__" = some (some (.builtin "object.__class__")))
   (hn:W.specialIn K (.builtin "object.__class__") "__get__" = some (some (.builtin "getset_descriptor.__get__"))) (htk:W.takesIn K (.builtin "object.__class__")=some true)
   (hm:W.mroIn K C (.type "object")=some true):dq K H (.ref a) (.ref C)
theorem zX{x:V}{t:Value}(I:Inv X pins σ H s)(rx:RelV x u)(ty:dq X.K H x t)(e:W.kitOne X.K t c=some b)(h:∀ tk,Q (.bool b) { s with toks:=tk }):
  wpAny (model X.prog X.w) A (call (.builtin "isinstance") [u,c]) Q E s:=by
 cases ty with
 | non=>cases (show u=Value.none from rx);exact W.kia_one W.kitx_none I.kIn True.intro e (λ z=>nomatch z) h
 | bl y=>cases (show u=Value.bool y from rx);exact W.kia_one W.kitx_bool I.kIn True.intro e (λ z=>nomatch z) h
 | int i=>obtain ⟨t,q⟩:=(show ∃ t,u=Value.int i t from rx);cases q;exact W.kia_one W.kitx_int I.kIn True.intro e (λ z=>nomatch z) h
 | str y=>obtain ⟨t,q⟩:=(show ∃ t,u=Value.str y t from rx);cases q;exact W.kia_one W.kitx_str I.kIn True.intro e (λ z=>nomatch z) h
 | flt y=>obtain ⟨t,q⟩:=(show ∃ t,u=Value.float y t from rx);cases q;exact W.kia_one W.kitx_float I.kIn True.intro e (λ z=>nomatch z) h
 | @lst a xs ea=>
  cases (show u=Value.ref a from rx);obtain ⟨_,_,n,_,h1⟩:=(show ObjOk X.prog X.w H s.heap a (.lst xs) from I.hok a _ ea)
  exact W.kia_one W.kitx_list I.kIn ⟨_,h1,rfl⟩ e (λ z=>nomatch z) h
 | @frz a ob xs ea=>
  cases (show u=Value.ref a from rx);obtain ⟨_,_,_,n,_,h1⟩:=(show ObjOk X.prog X.w H s.heap a (.frz ob (.lst xs)) from I.hok a _ ea)
  exact W.kia_one W.kitx_list I.kIn ⟨_,h1,rfl⟩ e (λ z=>nomatch z) h
 | @tup a xs ea=>
  cases (show u=Value.ref a from rx);obtain ⟨_,_,_,p⟩:=(show ObjOk X.prog X.w H s.heap a (.tup xs) from I.hok a _ ea)
  obtain ⟨o,h1,h2,_⟩:=p;exact W.kia_one W.kitx_tuple I.kIn ⟨o,h1,h2⟩ e (λ z=>nomatch z) h
 | @dK a kvs ea=>
  cases (show u=Value.ref a from rx);obtain ⟨_,_,vs,_,p⟩:=(show ObjOk X.prog X.w H s.heap a (.dK kvs) from I.hok a _ ea)
  obtain ⟨o,es,ep,h1,h2,_⟩:=p;exact W.kia_one W.kitx_dict I.kIn ⟨o,h1,h2.1⟩ e (λ z=>nomatch z) h
 | @dT a kvs ea=>
  cases (show u=Value.ref a from rx);obtain ⟨_,_,xs,_,o,es,ep,h1,h2,_⟩:=(show ObjOk X.prog X.w H s.heap a (.dT kvs) from I.hok a _ ea)
  exact W.kia_one W.kitx_dict I.kIn ⟨o,h1,h2.1⟩ e (λ z=>nomatch z) h
 | @ins a C dx fs ea cl ha hn htk hm=>
  cases (show u=Value.ref a from rx);obtain ⟨mA,O,_⟩:=j4 I.hok ea;obtain ⟨od,J,_⟩:=O.look;exact W.kia_one (W.kitx_own (cl.get _) cl.hd ha hn htk hm) I.kIn J e (λ z=>nomatch z) h
end
structure Room (k:Nat) (A:Around):Prop where
 hd:A.handled=none
 dp:A.depth+3 * k+5 < recursionLimit
 un:A.units+16 * k+200 < cLine
theorem Room.mono{k:Nat}(r:Room k A)(h:j<=k):Room j A:=⟨r.hd,by have:=r.dp;omega,by have:=r.un;omega⟩
theorem Room.deeper{k:Nat}(r:Room (k+1) A)(env:Env):Room k (A.deeper env):=
 ⟨r.hd,by have:=r.dp;show A.depth+1+3 * k+5 < _;omega,by have:=r.un;show A.units+3+16 * k+200 < _;omega⟩
theorem Room.in1{k:Nat}(r:Room (k+1) A):Room k A.in1:=
 ⟨r.hd,by have:=r.dp;show A.depth+3 * k+5 < _;omega,by have:=r.un;show A.units+1+16 * k+200 < _;omega⟩
theorem zaW     : (A.under (.builtin "type.__call__" ⟨.ref C::us,kw⟩)).depth=A.depth+1:=by
 first | rfl | simp [Around.under,Code.weight,Code.isCreation,Code.isGuard,Code.isCaller,Code.frames,Code.isFrame,guardIds]
theorem zaY     : (A.under (.builtin "type.__call__" ⟨.ref C::us,kw⟩)).units=A.units+1:=by
 first | rfl | simp [Around.under,Code.cUnits,Code.frames,Code.isFrame]
theorem Room.make{k:Nat}(r:Room (k+1) A)(C:Addr)(us:List Value)(kw:List (Str × Value)):Room k (A.under (.builtin "type.__call__" ⟨.ref C::us,kw⟩)):=
 ⟨r.hd,by have:=r.dp;rw [zaW];omega,by have:=r.un;rw [zaY];omega⟩
theorem Room.depth{k:Nat}(r:Room k A):A.depth < recursionLimit:=by have:=r.dp;omega
theorem Room.units{k:Nat}(r:Room k A):A.units+64 < cLine:=by have:=r.un;omega
noncomputable def fc:TA:=λ _ H Q=>Q [] H
noncomputable def gG(ta:TE)(tr:TA):TA:=λ σ H Q=>ta σ H λ x H1=>tr σ H1 λ xs H2=>Q (x::xs) H2
section
variable {t:TA}
theorem ad:PA X [] fc:=λ _ _ _ _ H Q I h=>Calls.spliced_nil ⟨[],H,I,.nil,h⟩
theorem aa(ha:PE X e te)(hr:PA X es t)(hs:starEach (e::es) X.env=(false,eval e X.env)::starEach es X.env:=by rfl):PA X (e::es) (gG te t):=by
 intro pos pins s σ H Q I h;rw [hs];show wpAny _ _ (spliced ((false,eval e X.env)::backTo pos (starEach es X.env))) _ _ s;refine Calls.spliced_cons (thn (ha pins s σ H _ I h) λ u s1 ⟨x,H1,I1,r1,q1⟩=>?_);exact thn (hr pos pins s1 σ H1 _ I1 q1) λ us s2 ⟨xs,H2,I2,r2,q2⟩=>⟨x::xs,H2,I2,.cons r1 r2,q2⟩
noncomputable def vO(t:TA):TE:=λ σ H Q=>t σ H λ xs H1=>xs.length<=sizeLine/\∀ p,H1 p=none->Q (.ref p) (upd H1 p (.tup xs))
noncomputable def zge(t:TA):TE:=λ σ H Q=>t σ H λ xs H1=>xs.length<=sizeLine/\∀ p,H1 p=none->Q (.ref p) (upd H1 p (.lst xs))
theorem cp{x1}(h:PA X es t):PE X (.Tuple es x1 pos) (vO t):=by
 intro pins s σ H Q I hq;refine wpAny_Tuple_spliced (thn (h pos pins s σ H _ I hq) λ us s1 ⟨xs,H1,I1,r,z,q⟩=>⟨by rw [← r.length];exact z,?_⟩);have hf:H1 s1.heap.objs.size=none:=I1.hok.fresh (Nat.le_refl _);refine ⟨.ref s1.heap.objs.size,upd H1 s1.heap.objs.size (.tup xs),I1.laid (t':=s1.toks) (λ b u e=>aU _ e) (Nat.le_refl _) ?_,rfl,q _ hf⟩;exact ⟨z,us,r,⟨_,Heap.get?_push_size _ rfl,rfl,_,rfl⟩⟩
theorem bS(h:PA X es t):PE X (.List es pos) (zge t):=by
 intro pins s σ H Q I hq;refine wpAny_List_spliced (thn (h pos pins s σ H _ I hq) λ us s1 ⟨xs,H1,I1,r,z,q⟩=>⟨by rw [← r.length];exact z,?_⟩);have hf:H1 s1.heap.objs.size=none:=I1.hok.fresh (Nat.le_refl _);refine ⟨.ref s1.heap.objs.size,upd H1 s1.heap.objs.size (.lst xs),I1.laid (t':=s1.toks) (λ b u e=>aU _ e) (Nat.le_refl _) ?_,rfl,q _ hf⟩;exact ⟨z,us,0,r,Heap.get?_push_size _ rfl⟩
end
noncomputable abbrev Sp:=List V->Hp->VK->XK->Prop
variable {sp:Sp}
noncomputable abbrev CXT:=List Env->Hp->Shared->XK->Value->Shared->Prop
variable {CX:CXT}
structure Env0 (P:Program) (w:World) (K:W.Frag) (mg:Str->Option Value) (base:Heap) (A:Around) (outer:List Env) (s:Shared) (H:Hp):Prop where
 frames:A.frames=some outer
 mod:Mod K mg base
 bs:∀ b o,base.get? b=some o->s.heap.get? b=some o/\H b=none
 bsz:base.objs.size<=s.heap.objs.size
 funs:s.heap.FunFrames base outer
 frf:∀ b∈frs outer,H b=none
 hok:HOk P w H s.heap
 bare:AllBare s.gens
noncomputable def CE(outer:List Env)(P:Program)(w:World)(H:Hp)(s:Shared)(Q:VK)(u:Value)(s':Shared):Prop:=
 ∃ v H',s'.os=s.os/\AllBare s'.gens/\Un (frs outer) [] H H' s.heap s'.heap/\HOk P w H' s'.heap/\RelV v u/\Q v H'
noncomputable def CR(CX:CXT)(outer:List Env)(P:Program)(w:World)(H:Hp)(s:Shared)(Q:VK)(E:XK)(r:Result)(s':Shared):Prop:=
 match r with
 | .ok (.ret u)=>CE outer P w H s Q u s'
 | .ok _=>False
 | .error e=>CX outer H s E e s'
structure FnOk (P:Program) (w:World) (K:W.Frag) (mg:Str->Option Value) (base:Heap) (CX:CXT) (k:Nat) (f:Addr) (fd:FuncData) (ps:List Str) (sp:Sp):Prop where
 len:∀ vs H Q E,sp vs H Q E->vs.length=ps.length
 run:∀ (A:Around) (outer:List Env) (s:Shared) (H:Hp) (args:Args) (us:List Value) (vs:List V) (Q:VK) (E:XK),Room k A->Env0 P w K mg base A outer s H->BindsTo s fd args (ps.zip us)->Vals vs us->sp vs H Q E->
  codeAny (model P w) A (.call (.ref f) args) (CR CX outer P w H s Q E) s
theorem FnOk.mono{P:Program}{w:World}{K:W.Frag}{mg:Str->Option Value}{base:Heap}{CX:CXT}{j k:Nat}{f:Addr}{fd:FuncData}{ps:List Str}{sp:Sp}(F:FnOk P w K mg base CX j f fd ps sp)(h:j<=k):
  FnOk P w K mg base CX k f fd ps sp:=⟨F.len,λ A outer s H args us vs Q E hr=>F.run A outer s H args us vs Q E (hr.mono h)⟩
theorem FnOk.imp{k:Nat}{f:Addr}{sp':Sp}(F:FnOk P w K mg base CX k f fd ps sp)(h:∀ vs H Q E,sp' vs H Q E->sp vs H Q E):FnOk P w K mg base CX k f fd ps sp':=
 ⟨λ vs H Q E q=>F.len vs H Q E (h _ _ _ _ q),λ A outer s H args us vs Q E hr he hb hv hs=>F.run A outer s H args us vs Q E hr he hb hv (h _ _ _ _ hs)⟩
theorem Env0.make(e:Env0 P w K mg base A outer s H)(C:Addr)(us:List Value)(kw:List (Str × Value)):
  Env0 P w K mg base (A.under (.builtin "type.__call__" ⟨.ref C::us,kw⟩)) outer s H:=⟨by first | exact e.frames | (simpa [Around.under,Code.envs,Code.isFrame,pushEnvs] using e.frames),e.mod,e.bs,e.bsz,e.funs,e.frf,e.hok,e.bare⟩
theorem Env0.in1(e:Env0 P w K mg base A outer s H):
  Env0 P w K mg base A.in1 outer s H:=⟨e.frames,e.mod,e.bs,e.bsz,e.funs,e.frf,e.hok,e.bare⟩
theorem Inv.env0(I:Inv X pins σ H s):Env0 X.prog X.w X.K X.mg X.base X.A X.stack s H:=
 ⟨I.ok.frames,I.ok.mod,I.bs,Nat.le_trans I.ok.bsz I.sz,I.stack,I.stkFree,I.hok,I.bare⟩
theorem Inv.after{Q:VK}(I:Inv X pins σ H s)(h:CE X.stack X.prog X.w H s Q u s'):EP X pins σ Q u s':=by
 obtain ⟨v,H',os,bare,un,hok,r,q⟩:=h;obtain ⟨hh,g,d,t,os'⟩:=s';obtain rfl:os'=s.os:=os;exact ⟨v,H',I.call (h':=hh) (g':=g) (d':=d) (t':=t) (ch:=[]) un hok bare (λ b z=>absurd z (by simp)),r,q⟩
noncomputable def pN(sp:Sp)(dvs:List V)(E:XK)(t:TA):TE:=λ σ H Q=>t σ H λ vs H1=>sp (vs++dvs) H1 Q E
noncomputable def pO(C:Addr)(m:Str)(sp:Sp)(dvs:List V)(E:XK)(ta:TE)(t:TA):TE:=λ σ H Q=>ta σ H λ x H1=>∃ a dx fs,x = .ref a/\H1 a=some (.ins C dx fs)/\fs.lookup m=none/\
 t σ H1 λ vs H2=>sp (x::(vs++dvs)) H2 Q E
noncomputable def vK(C:Addr)(sp:Sp)(dvs:List V)(E:XK)(t:TA):TE:=λ σ H Q=>t σ H λ vs H1=>∀ x dx,H1 x=none->H1 dx=none->dx≠x->
 sp (.ref x::(vs++dvs)) (upd (upd H1 dx (.own x)) x (.ins C dx [])) (λ v H2=>v = .non/\Q (.ref x) H2) E
noncomputable def Binds(K:W.Frag)(fd:FuncData)(ps:List Str)(ds:List Value):Prop:=
 ∀ (s:Shared) (us:List Value),K.In s.heap->(us++ds).length=ps.length->BindsTo s fd ⟨us,[]⟩ (ps.zip (us++ds))
theorem Binds.all(h:∀ us:List Value,us.length=ps.length->bindArgs fd ⟨us,[]⟩=pure (ps.zip us)):Binds K fd ps []:=λ s us _ hl=>by
 rw [List.append_nil] at hl ⊢;exact .of_eq (h us hl)
noncomputable def cz(CX:CXT)(X:Cx)(E:XK):Prop:=∀ (pins:List (Addr × Obj)) (σ:St) (H:Hp) (s:Shared) (e:Value) (s':Shared),Inv X pins σ H s->CX X.stack H s E e s'->X.xe e s'
section
variable {k:Nat} {f:Addr} {dvs:List V} {ds:List Value} {E:XK} {m:Str} {o:Expr} {t:TA}
theorem ji{Q:VK}{vs:List V}(F:FnOk X.prog X.w X.K X.mg X.base CX k f fd ps sp)(hr:Room k X.A)(hb:Binds X.K fd ps ds)(hd:Vals dvs ds)(hx:cz CX X E)(I:Inv X pins σ H s)(r:Vals vs us)(h:sp (vs++dvs) H Q E):wpAny (model X.prog X.w) X.A (call (.ref f) us) (EP X pins σ Q) X.xe s:=by
 have r2:Vals (vs++dvs) (us++ds):=r.append hd;have hl:(us++ds).length=ps.length:=by rw [← r2.length];exact F.len _ _ _ _ h
 refine wpAny_call (codeAny_mono (F.run X.A X.stack s H ⟨us,[]⟩ (us++ds) (vs++dvs) Q E hr I.env0 (hb s us I.kIn hl) r2 h) λ r s' hq=>?_);cases r with
 | error e=>exact hx pins σ H s e s' I hq
 | ok fl=>
  cases fl with
  | ret u=>exact I.after hq
  | next=>exact False.elim hq
  | brk=>exact False.elim hq
  | cont=>exact False.elim hq
theorem zdQ(F:FnOk X.prog X.w X.K X.mg X.base CX k f fd ps sp)(hr:Room k X.A)(hg:Gl X x)(hm:X.mg x=some (.ref f))(hk:W.keepIn X.K (.ref f)=true)(hb:Binds X.K fd ps ds)(hd:Vals dvs ds)(hx:cz CX X E)(ha:PA X (e::es) t)(hdb:(x == ("__debug__" : Str))=false:=by decide)(he:starEach (e::es) X.env=(false,eval e X.env)::starEach es X.env:=by rfl)(hpl:(backTo pos (starEach es X.env)).any (·.1)=false:=by rfl):
  PE X (.Call (.Name x p) (e::es) [] pos) (pN sp dvs E t):=by
 intro pins s σ H Q I h;refine wpAny_Call_Name_kw (eD I hg hm ?_ hdb);refine W.callWith_K (h₀:=X.base) I.ok.mod.kin hk (thn (ha pos pins s σ H _ I h) λ us s1 ⟨vs,H1,I1,r,q⟩=>⟨I1.kIn,?_⟩) he hpl;exact ji F hr hb hd hx I1 r q
theorem bU(he:PE X o ta)(c:Cls X.K C)(hm:gQ X.K C m f)(F:FnOk X.prog X.w X.K X.mg X.base CX k f fd ps sp)(hr:Room k X.A)(hb:Binds X.K fd ps ds)(hd:Vals dvs ds)(hx:cz CX X E)(ha:PA X (e::es) t)(hst:starEach (e::es) X.env=(false,eval e X.env)::starEach es X.env:=by rfl)(hpl:(backTo pos (starEach es X.env)).any (·.1)=false:=by rfl)(ht:eval (.Call (.Attribute o m apos) (e::es) [] pos) X.env=(do
   let ov ← eval o X.env
   standAt apos.atName
   let (f,first) ← holding [ov] (getMethod ov m pl)
   callWith pos f first (backTo pos (starEach (e::es) X.env)) (backToKw pos (keywordEach [] X.env))):=by rfl):
  PE X (.Call (.Attribute o m apos) (e::es) [] pos) (pO C m sp dvs E ta t):=by
 intro pins s σ H Q I h;refine W.methodCall_KW (pl:=pl) (thn (he pins s σ H _ I h) λ u s1 ⟨x,H1,I1,rx,a,dx,fs,ex,ea,l,q⟩=>?_) ht;subst ex;obtain rfl:u=Value.ref a:=rx;refine mt I1 ea c hm l ?_;refine W.callWith_K (first:=[.ref a]) (h₀:=X.base) I.ok.mod.kin hm.kp (thn (ha pos pins s1 σ H1 _ I1 q) λ us s2 ⟨vs,H2,I2,r,q2⟩=>⟨I2.kIn,?_⟩) hst hpl;exact ji (us:=.ref a::us) (vs:=.ref a::vs) F hr hb hd hx I2 (.cons rfl r) q2
theorem fF(he:PE X o ta)(c:Cls X.K C)(hm:gQ X.K C m f)(F:FnOk X.prog X.w X.K X.mg X.base CX k f fd ps sp)(hr:Room k X.A)(hb:Binds X.K fd ps ds)(hd:Vals dvs ds)(hx:cz CX X E)(ht:eval (.Call (.Attribute o m apos) [] [] pos) X.env=(do
   let ov ← eval o X.env
   standAt apos.atName
   let (f,first) ← holding [ov] (getMethod ov m pl)
   callWith pos f first (backTo pos (starEach [] X.env)) (backToKw pos (keywordEach [] X.env))):=by rfl):
  PE X (.Call (.Attribute o m apos) [] [] pos) (pO C m sp dvs E ta fc):=by
 intro pins s σ H Q I h;refine W.methodCall_KW (pl:=pl) (thn (he pins s σ H _ I h) λ u s1 ⟨x,H1,I1,rx,a,dx,fs,ex,ea,l,q⟩=>?_) ht;subst ex;obtain rfl:u=Value.ref a:=rx;refine mt I1 ea c hm l ?_;exact W.callWith_K0 (first:=[.ref a]) I1.kIn hm.kp (ji (us:=[.ref a]) (vs:=[.ref a]) F hr hb hd hx I1 (.cons rfl .nil) q)
structure Mk (K:W.Frag) (C f:Addr):Prop where
 makes:W.makesIn K C=true
 init:W.findIn K (.ref C) "__init__" = some (some (.ref f))
 fn:W.isFn K (.ref f)=true
 kp:W.keepIn K (.ref C)=true
theorem uD{Q:VK}{vs:List V}(M:Mk X.K C f)(F:FnOk X.prog X.w X.K X.mg X.base CX k f fd ps sp)(hr:Room (k+1) X.A)(hb:Binds X.K fd ps ds)(hd:Vals dvs ds)(hx:cz CX X E)(I:Inv X pins σ H s)(r:Vals vs us)(h:∀ x dx,H x=none->H dx=none->dx≠x->sp (.ref x::(vs++dvs)) (upd (upd H dx (.own x)) x (.ins C dx [])) (λ v H2=>v = .non/\Q (.ref x) H2) E):
  wpAny (model X.prog X.w) X.A (call (.ref C) us) (EP X pins σ Q) X.xe s:=by
 have hq:=h (s.heap.objs.size+1) s.heap.objs.size (I.hok.fresh (Nat.le_succ _)) (I.hok.fresh (Nat.le_refl _)) (Nat.ne_of_lt (Nat.lt_succ_self _));have I2:=Inv.made (C:=C) I;have r2:Vals (V.ref (s.heap.objs.size+1)::(vs++dvs)) (Value.ref (s.heap.objs.size+1)::(us++ds)):=.cons rfl (r.append hd);have hl:(Value.ref (s.heap.objs.size+1)::us++ds).length=ps.length:=by
  have e:=r2.length;rw [F.len _ _ _ _ hq] at e;exact e.symm
 refine wpAny_call (zaX (f:=f) I.kIn M.makes M.init (beq_iff_eq.mp M.fn) (codeAny_mono (F.run _ X.stack _ _ ⟨Value.ref (s.heap.objs.size+1)::us,[]⟩ (Value.ref (s.heap.objs.size+1)::(us++ds)) _ _ E (hr.make C us [])
  (I2.env0.make C us []) (hb _ (Value.ref (s.heap.objs.size+1)::us) I2.kIn hl) r2 hq) λ r s' hq'=>?_))
 cases r with
 | error e=>exact hx pins σ _ _ e s' I2 hq'
 | ok fl=>
  cases fl with
  | ret u=>
   obtain ⟨v,H',I3,rv,ev,q3⟩:=I2.after hq';subst ev;exact ⟨rv,⟨V.ref (s.heap.objs.size+1),H',I3,rfl,q3⟩⟩
  | next=>exact False.elim hq'
  | brk=>exact False.elim hq'
  | cont=>exact False.elim hq'
theorem tW(M:Mk X.K C f)(F:FnOk X.prog X.w X.K X.mg X.base CX k f fd ps sp)(hr:Room (k+1) X.A)(hg:Gl X x)(hm:X.mg x=some (.ref C))(hb:Binds X.K fd ps ds)(hd:Vals dvs ds)(hx:cz CX X E)(ha:PA X (e::es) t)(hdb:(x == ("__debug__" : Str))=false:=by decide)(he:starEach (e::es) X.env=(false,eval e X.env)::starEach es X.env:=by rfl)(hpl:(backTo pos (starEach es X.env)).any (·.1)=false:=by rfl):
  PE X (.Call (.Name x p) (e::es) [] pos) (vK C sp dvs E t):=by
 intro pins s σ H Q I h;refine wpAny_Call_Name_kw (eD I hg hm ?_ hdb);refine W.callWith_K (h₀:=X.base) I.ok.mod.kin M.kp (thn (ha pos pins s σ H _ I h) λ us s1 ⟨vs,H1,I1,r,q⟩=>⟨I1.kIn,?_⟩) he hpl;exact uD M F hr hb hd hx I1 r q
theorem tX(M:Mk X.K C f)(F:FnOk X.prog X.w X.K X.mg X.base CX k f fd ps sp)(hr:Room (k+1) X.A)(hg:Gl X x)(hm:X.mg x=some (.ref C))(hb:Binds X.K fd ps ds)(hd:Vals dvs ds)(hx:cz CX X E)(hdb:(x == ("__debug__" : Str))=false:=by decide):PE X (.Call (.Name x p) [] [] pos) (vK C sp dvs E fc):=by
 intro pins s σ H Q I h;refine wpAny_Call_Name_kw (eD I hg hm ?_ hdb);exact W.callWith_K0 I.kIn M.kp (uD (us:=[]) M F hr hb hd hx I .nil h)
end
section
variable {k:Nat} {f:Addr} {ks:List Str} {E:XK} {m:Str} {o:Expr} {kws:List Keyword} {t tk:TA} {nm:Option Str}
variable {g:List Value->List Value->List Value} {gV:List V->List V->List V}
end
structure aA (N P:List Str) (sc:Scope):Prop where
 kind:sc.kind = .function
 co:sc.isCoroutine=false
 gen:sc.isGenerator=false
 nd:N.Nodup
 pre:N.take P.length=P
 par:∀ x∈P,sc.names.lookup x=some .local\/sc.names.lookup x=some .cell
 nofree:∀ y∈sc.names,y.2≠.free
theorem qH{kindOf:Str->Option NameKind}{x:Str}:∀ {binds:List (Str × Value)} {m:Str->Option Value},(∀ v,(x,v)∉binds)->bindL kindOf binds m x=m x
 | [],_,_=>rfl
 | (n,v)::r,m,h=>by
  unfold bindL;rw [qH λ w hw=>h w (bp _ hw)]
  split
  ·have:x≠n:=by rintro rfl;exact h v b9
   simp [this]
  ·rfl
theorem qF{kindOf:Str->Option NameKind}{x:Str}:∀ {binds:List (Str × Value)} {m:Str->Option Value},(∀ v,(x,v)∉binds)->bindC kindOf binds m x=m x
 | [],_,_=>rfl
 | (n,v)::r,m,h=>by
  unfold bindC;rw [qF λ w hw=>h w (bp _ hw)]
  split
  ·rfl
  ·have:x≠n:=by rintro rfl;exact h v b9
   simp [this]
theorem qG{kindOf:Str->Option NameKind}{x:Str}{v:Value}:∀ {P:List Str} {vs:List Value} {i:Nat} {m:Str->Option Value},P.Nodup->P[i]?=some x->vs[i]?=some v->kindOf x=some .local->
  bindL kindOf (P.zip vs) m x=some v
 | [],_,_,_,_,h,_,_=>by simp at h
 | _::_,[],_,_,_,_,h,_=>by simp at h
 | p::P,w::vs,0,m,nd,h1,h2,hk=>by
  simp at h1 h2;subst h1;subst h2;show bindL kindOf ((p,w)::P.zip vs) m p=_;unfold bindL;rw [qH λ v hv=>(List.nodup_cons.mp nd).1 (List.of_mem_zip hv).1,if_pos hk];simp
 | p::P,w::vs,i+1,m,nd,h1,h2,hk=>by
  show bindL kindOf ((p,w)::P.zip vs) m x=_;unfold bindL;exact qG (i:=i) (List.nodup_cons.mp nd).2 (by simpa using h1) (by simpa using h2) hk
theorem qE{kindOf:Str->Option NameKind}{x:Str}{v:Value}:∀ {P:List Str} {vs:List Value} {i:Nat} {m:Str->Option Value},P.Nodup->P[i]?=some x->vs[i]?=some v->kindOf x≠some .local->
  bindC kindOf (P.zip vs) m x=some v
 | [],_,_,_,_,h,_,_=>by simp at h
 | _::_,[],_,_,_,_,h,_=>by simp at h
 | p::P,w::vs,0,m,nd,h1,h2,hk=>by
  simp at h1 h2;subst h1;subst h2;show bindC kindOf ((p,w)::P.zip vs) m p=_;unfold bindC;rw [qF λ v hv=>(List.nodup_cons.mp nd).1 (List.of_mem_zip hv).1,if_neg hk];simp
 | p::P,w::vs,i+1,m,nd,h1,h2,hk=>by
  show bindC kindOf ((p,w)::P.zip vs) m x=_;unfold bindC;exact qE (i:=i) (List.nodup_cons.mp nd).2 (by simpa using h1) (by simpa using h2) hk
noncomputable def fb(N:List Str)(vs:List V):St:=vs.map some++List.replicate (N.length - vs.length) none
noncomputable def cI(CX:CXT)(P:Program)(w:World)(K:W.Frag)(mg:Str->Option Value)(base:Heap)(N:List Str)(qual:Str)(scope:Scope)(f:Addr)(cd:Value)(A:Around)(outer:List Env)(s:Shared)(H:Hp)(E:XK):Cx where
 prog:=P
 w:=w
 K:=K
 mg:=mg
 base:=base
 A:=A.deeper (envOfC qual scope s.heap.objs.size f cd)
 N:=N
 s₀:=s
 H₀:=H
 env:=envOfC qual scope s.heap.objs.size f cd
 outer:=outer
 stack:=envOfC qual scope s.heap.objs.size f cd::outer
 ex:=[]
 calm:=true
 fn:=λ _=>true
 pn:=[]
 xe:=λ e s'=>wpAny (model P w) (A.deeper (envOfC qual scope s.heap.objs.size f cd)) (leaving (envOfC qual scope s.heap.objs.size f cd) e) (λ _ s''=>CX outer H s E e s'') (λ e' s''=>CX outer H s E e' s'') s'
theorem rg(h:sc.names.lookup x=some .cell):∃ c,(cellsFrom n sc.names []).lookup x=some c:=by
 have q:=W.cellsFrom_some sc.names n [] (.inl h);exact Option.isSome_iff_exists.mp q
theorem zS{f:Addr}{s1:Shared}{E:XK}{vs:List V}(S:aA N ps scope)(hd:A.handled=none)(e0:Env0 P w K mg base A outer s H)(hl:vs.length=ps.length)(r:Vals vs us)(x:InCallC s s.heap.objs.size (bindL (envOfC qual scope s.heap.objs.size f cd).kindOf (ps.zip us) λ _=>none) (cellsFrom (s.heap.objs.size+1) scope.names []) (bindC (envOfC qual scope s.heap.objs.size f cd).kindOf (ps.zip us) λ _=>none) s1):
  Inv (cI CX P w K mg base N qual scope f cd A outer s H E) [] (fb N vs) H s1:=by
 have hpl:ps.length<=N.length:=by have:=congrArg List.length S.pre;rw [be] at this;omega
 obtain ⟨h1,tk,rfl,hk⟩:=x.done;have noA:∀ b:Addr,b∉(cI CX P w K mg base N qual scope f cd A outer s H E).ex:=λ b z=>absurd (show b∈([]:List Addr) from z) (by simp);refine ⟨⟨e0.mod,S.kind,rfl,rfl,Nat.le_refl _,λ y z c h1 h2=>?_,λ y hy=>?_,λ y c _ h=>?_,λ _=>hd,Around.frames_deeper e0.frames,.inr ⟨rfl,rfl⟩,λ b z=>absurd z (noA b),e0.bs,e0.bsz,λ b _ _=>noA b,λ b z=>absurd z (noA b),e0.funs,e0.frf⟩,
  rfl,e0.bare,Un.kept hk,⟨_,x.toInCall.ns,λ i y v h1 h2 h3=>?_⟩,λ y c h=>⟨_,x.cell y c h⟩,e0.hok.fresh (Nat.le_refl _),λ y c h=>?_,λ p hp=>absurd (show p∈([]:List (Addr × Obj)) from hp) (by simp),e0.hok.kept hk,?_⟩
 ·exact name_of_addr x.apart (PySem.mem_of_lookup h1) (PySem.mem_of_lookup h2)
 ·have hy:scope.names.lookup y=some .cell\/scope.names.lookup y=some .free:=hy;rcases hy with hy | hy
  ·exact rg hy
  ·exact absurd rfl (S.nofree _ (PySem.mem_of_lookup hy))
 ·exact Nat.le_of_lt (x.above y c (PySem.mem_of_lookup h))
 ·have hi:i < vs.length:=by
   unfold fb at h2;by_cases hi:i < vs.length
   ·exact hi
   ·rw [List.getElem?_append_right (by simpa using hi)] at h2;rw [List.getElem?_replicate] at h2
    split at h2 <;> cases h2
  have ha:vs[i]?=some v:=by
   unfold fb at h2;rw [List.getElem?_append_left (by simpa using hi),aL] at h2;cases e:vs[i]? with
   | none=>rw [e] at h2;cases h2
   | some a=>rw [e] at h2;cases h2;rfl
  obtain ⟨u,hu,rv⟩:=r.get ha;have hp:ps[i]?=some y:=by
   rw [← S.pre,List.getElem?_take_of_lt (by omega)];exact h1
  have ndP:ps.Nodup:=by rw [← S.pre];exact S.nd.sublist (List.take_sublist _ _)
  refine ⟨u,rv,?_⟩;rcases S.par y (cA hp) with k | k
  ·exact .inl ⟨k,qG ndP hp hu k⟩
  ·obtain ⟨c,e⟩:=rg (n:=s.heap.objs.size+1) k;refine .inr ⟨.inl k,c,e,?_⟩;have q:=x.cell y c e;rw [qE ndP hp hu (by show scope.names.lookup y≠_;rw [k];decide)] at q;exact q
 ·exact e0.hok.fresh (Nat.le_of_lt (x.above y c (PySem.mem_of_lookup h)))
 ·unfold fb;show _=N.length;rw [bc,ag,List.length_replicate];omega
theorem ma{k:Nat}{f:Addr}{params:Arguments}{dV kV:Value}(lk:K.lookup f=some ⟨oc,od,.func (W.fnOf name qual params body scope dV kV doc pm an cdv ct),osl⟩)(hcd:W.codeIn K cdv qual=true)(S:aA N ps scope)(len:∀ vs H Q E,sp vs H Q E->vs.length=ps.length)(hbody:∀ (A:Around) (outer:List Env) (s:Shared) (H:Hp) (vs:List V) (Q:VK) (E:XK),Room k (A.deeper (envOfC qual scope s.heap.objs.size f cdv))->sp vs H Q E->
      ∃ t,PSs (cI CX P w K mg base N qual scope f cdv A outer s H E) body t/\t { nx:=λ _ H'=>Q .non H',rt:=Q } (fb N vs) H):
    FnOk P w K mg base CX (k+1) f (W.fnOf name qual params body scope dV kV doc pm an cdv ct) ps sp:=by
  refine ⟨len,λ A outer s H args us vs Q E hr e0 hb r hsp=>?_⟩;have hl:=len _ _ _ _ hsp;have KX:K.In s.heap:=e0.mod.kin.keeps λ b o e=>(e0.bs b o e).1;have lim:s.heap.NoLimit:=e0.mod.nolimit.keeps λ b o e=>(e0.bs b o e).1;have hkind:∀ y∈ps.zip us,scope.names.lookup y.1=some .local\/(scope.names.lookup y.1=some .cell/\((cellsFrom (s.heap.objs.size+1) scope.names []).lookup y.1).isSome=true):=λ ⟨n,v⟩ hy=>by
    rcases S.par n (List.of_mem_zip hy).1 with q | q
    · exact .inl q
    · exact .inr ⟨q,W.cellsFrom_some _ _ _ (.inl q)⟩
  refine codeAny_call_function hr.depth (KX _ _ lk) rfl S.co S.gen rfl (W.codeRec_of KX hcd) (hb _ _ _ _ ?_);refine wpAny_newFunctionEnv_cells S.kind hkind λ env he s1 x=>?_;subst he;refine ⟨lim.keeps x.toInCall.keep,codeAny_func ?_⟩;obtain ⟨t,ht,hq⟩:=hbody A outer s H vs Q E (hr.deeper _) hsp;have I:Inv (cI CX P w K mg base N qual scope f cdv A outer s H E) [] (fb N vs) H s1:=zS S hr.hd e0 hl r x;refine wpAny_mono (ht [] s1 (fb N vs) H _ I hq) (λ fl s' hs=>?_) λ e s' hs=>hs;have fin:∀ {σ':St} {H':Hp} {v:V} {u:Value},Inv (cI CX P w K mg base N qual scope f cdv A outer s H E) [] σ' H' s'->RelV v u->Q v H'->CE outer P w H s Q u s':=
    λ {σ' H' v u} J rv q=>⟨v,H',J.os,J.bare,J.base,J.hok,rv,q⟩
  cases fl with
  | ret u=>
    obtain ⟨v,σ',H',J,rv,q⟩:=hs;exact fin J rv q
  | next=>
    obtain ⟨σ',H',J,q⟩:=hs;exact fin (v:=V.non) (u:=Value.none) J rfl q
  | brk=>
    obtain ⟨_,_,_,q⟩:=hs;exact False.elim q
  | cont=>
    obtain ⟨_,_,_,q⟩:=hs;exact False.elim q
section
variable {t:TA} {id T:String} {r:List V->Hp->VK->Prop}
noncomputable def tCB(r:List V->Hp->VK->Prop)(t:TA):TE:=λ σ H Q=>t σ H λ vs H1=>r vs H1 Q
theorem aP(hc:CallR X (.builtin id) r)(hg:Gl X x)(hm:X.mg x=none)(hv:bootBuiltins x=some (.builtin id))(ha:PA X (e::es) t)(hn:x ≠ "__name__" := by decide)(hdb:(x == ("__debug__" : Str))=false:=by decide)(he:starEach (e::es) X.env=(false,eval e X.env)::starEach es X.env:=by rfl)(hpl:(backTo pos (starEach es X.env)).any (·.1)=false:=by rfl):PE X (.Call (.Name x p) (e::es) [] pos) (tCB r t):=by
 intro pins s σ H Q I h;refine wpAny_Call_Name_kw (dJ I hg hm hv ?_ hn hdb);exact PyProof.Rows.callWith_builtin1 (thn (ha pos pins s σ H _ I h) λ us s1 ⟨vs,H1,I1,r1,q1⟩=>hc pins s1 σ H1 vs us Q I1 r1 q1) he hpl
theorem iu(hc:CallR X (.type T) r)(hg:Gl X x)(hm:X.mg x=none)(hv:bootBuiltins x=some (.type T))(ha:PA X (e::es) t)(hn:x ≠ "__name__" := by decide)(hdb:(x == ("__debug__" : Str))=false:=by decide)(he:starEach (e::es) X.env=(false,eval e X.env)::starEach es X.env:=by rfl)(hpl:(backTo pos (starEach es X.env)).any (·.1)=false:=by rfl):PE X (.Call (.Name x p) (e::es) [] pos) (tCB r t):=by
 intro pins s σ H Q I h;refine wpAny_Call_Name_kw (dJ I hg hm hv ?_ hn hdb);exact PyProof.Rows.callWith_type1 (thn (ha pos pins s σ H _ I h) λ us s1 ⟨vs,H1,I1,r1,q1⟩=>hc pins s1 σ H1 vs us Q I1 r1 q1) he hpl
end
namespace HT
open PySem PyProof.Rows
section
open PySem.SeqAt
open PySem.AutoSeq1 (wpAny_loadPart')
open PySem.MeetsSeq PySem.MeetsSeq2 PySem.MeetsSeq3
end
theorem cat_tup{t:Addr}{ws:List Value}(ht:IsTup s.heap t vs.toArray)(hb:IsTup s.heap b ws.toArray)(hv:vs≠[])(h1:ws=[]->Q (.ref t) s)(h2:ws≠[]->Q (.ref s.heap.objs.size) { s with heap:=s.heap.push { cls:=.type "tuple", data:=.seq (vs++ws).toArray } })(hsz:vs.length+ws.length<=sizeLine):wpAny (model prog w) A (binaryOp .Add (.ref t) (.ref b)) Q E s:=by
 obtain ⟨⟨cls,dd,data,sl⟩,ho,hc,n,hd⟩:=id ht;obtain ⟨⟨cls2,dd2,data2,sl2⟩,ho2,hc2,n2,hd2⟩:=id hb;simp only at hc hd hc2 hd2;subst hc hd hc2 hd2;have e:vs.toArray++ws.toArray=(vs++ws).toArray:=by simp
 by_cases hw:ws=[]
 ·exact concat_meets ⟨_,ho,rfl⟩ ⟨_,ho2,rfl⟩ noFill_tuple_add seq_tuple_add F.slot_tuple_add F.entry_tuple_add (F.args_tuple_add_2 _ _)
   (tuple_addW1 t b vs.toArray ws.toArray n n2 dd dd2 sl sl2 (by simpa using hv) (by simp [hw])) ⟨ho,ho2,h1 hw⟩
 ·refine concat_meets ⟨_,ho,rfl⟩ ⟨_,ho2,rfl⟩ noFill_tuple_add seq_tuple_add F.slot_tuple_add F.entry_tuple_add (F.args_tuple_add_2 _ _)
   (tuple_addW2 t b vs.toArray ws.toArray n n2 dd dd2 sl sl2 (by simpa using hv) (by simpa using hw) (by rw [aW,aW];exact hsz)) ⟨ho,ho2,?_⟩
  rw [e];exact h2 hw
noncomputable def sIx(n d:Nat):Option Int->Nat
 | none=>d
 | some v=>if v < 0 then (v+(n:Int)).toNat else min v.toNat n
theorem sIx_none(n d:Nat):sIx n d none=d:=rfl
theorem sIx_nat(n d k:Nat):sIx n d (some (k:Int))=min k n:=by
 show (if (k:Int) < 0 then ((k:Int)+(n:Int)).toNat else min (k:Int).toNat n)=min k n;rw [if_neg (by omega),Int.toNat_natCast]
theorem zeW(n d:Nat)(hd:d<=n)(o:Option Int):sIx n d o<=n:=by
 cases o with
 | none=>exact hd
 | some v=>
  show (if v < 0 then (v+(n:Int)).toNat else min v.toNat n)<=n;by_cases hv:v < 0
  ·rw [if_pos hv];omega
  ·rw [if_neg hv];exact Nat.min_le_right _ _
theorem rh(v:Int)(n d:Nat):(if v < 0 then max (v+(n:Int)) 0 else min v (n:Int))=((sIx n d (some v):Nat):Int):=by
 show (if v < 0 then max (v+(n:Int)) 0 else min v (n:Int))=(((if v < 0 then (v+(n:Int)).toNat else min v.toNat n):Nat):Int)
 by_cases hv:v < 0
 ·simp only [if_pos hv];omega
 ·simp only [if_neg hv];omega
theorem xm(lo hi:Option Int)(n:Nat):Builtin.Slice.sliceAdjust lo hi 1 (n:Int)=(((sIx n 0 lo:Nat):Int),((sIx n n hi:Nat):Int)):=by
 have h1:¬ ((1:Int) < 0):=by omega
 unfold Builtin.Slice.sliceAdjust;simp only [h1,if_false];refine Prod.ext ?_ ?_
 ·cases lo with
  | none=>rfl
  | some v=>exact rh v n 0
 ·cases hi with
  | none=>rfl
  | some v=>exact rh v n n
theorem zd6(i j:Nat):Builtin.Slice.slicePlaces (i:Int) (j:Int) 1=j - i:=by
 unfold Builtin.Slice.slicePlaces;have h1:(1:Int) > 0:=by omega
 simp only [h1,if_true,Int.ediv_one]
 split <;> omega
theorem uN{o:Option Int}{Q:Option Int->Shared->Prop}(p:IsPart v o)(h:Q o s):wpAny (model prog w) A (Builtin.Slice.slicePartIndex v) Q E s:=by
 cases p with
 | none=>exact slicePart_none h
 | int i t=>exact slicePart_int h
theorem zfH{sl:Addr}{lo:Option Int}{Q:Int × Int × Nat->Shared->Prop}(hs:s.heap.IsSliceOf sl vl vu .none)(pl:IsPart vl lo)(pu:IsPart vu hi)(h:Q (((sIx n 0 lo:Nat):Int),1,sIx n n hi - sIx n 0 lo) s):wpAny (model prog w) A (Builtin.Slice.sliceApplied (.ref sl) (pure (n:Int))) Q E s:=by
 obtain ⟨os,hos,hcs,hds⟩:=id hs;unfold Builtin.Slice.sliceApplied Builtin.Slice.sliceFields;refine ah (ah (wpAny_field hos hds (x:=vl) rfl (ah (wpAny_field hos hds (x:=vu) rfl (ah (wpAny_field hos hds (x:=.none) rfl (aC ?_)))))));refine ah (slicePart_none ?_);show wpAny _ _ (if ((1:Int) == 0)=true then _ else _) _ _ s;rw [if_neg (by decide)];refine ah (uN pl (ah (uN pu (ah (aC ?_)))));show wpAny _ _ (match Builtin.Slice.sliceAdjust lo hi 1 (n:Int) with | (lo,hi)=>pure (lo,(1:Int),Builtin.Slice.slicePlaces lo hi 1)) _ _ s;rw [xm lo hi n];show wpAny _ _ (pure (((sIx n 0 lo:Nat):Int),(1:Int),Builtin.Slice.slicePlaces ((sIx n 0 lo:Nat):Int) ((sIx n n hi:Nat):Int) 1)) _ _ s;rw [zd6];exact aC h
theorem zd5(xs:Array Value)(i k:Nat):((List.range k).filterMap λ (m:Nat)=>xs[((i:Int)+(m:Int) * 1).toNat]?).toArray=((xs.toList.drop i).take k).toArray:=by
 have e:(λ (m:Nat)=>xs[((i:Int)+(m:Int) * 1).toNat]?)=λ m=>xs[i+m]?:=by
  funext m
  have:((i:Int)+(m:Int) * 1).toNat=i+m:=by omega
  rw [this]
 rw [e];have:=pick_run xs i k;rw [List.filterMap_map] at this;have e2:((λ x=>xs[x]?) ∘ λ x=>i+x)=λ m=>xs[i+m]?:=rfl;rw [e2] at this;rw [this]
theorem getItem_tuple_cut{t sl:Addr}{lo:Option Int}(ht:IsTup s.heap t items)(hs:s.heap.IsSliceOf sl vl vu .none)(pl:IsPart vl lo)(pu:IsPart vu hi)(hw:¬ (sIx items.size 0 lo=0/\sIx items.size items.size hi=items.size))(h:Q (.ref s.heap.objs.size) { s with heap:=s.heap.push { cls:=.type "tuple", data:=.seq ((items.toList.drop (sIx items.size 0 lo)).take (sIx items.size items.size hi - sIx items.size 0 lo)).toArray } })(hsz:items.size<=sizeLine):wpAny (model prog w) A (getItem (.ref t) (.ref sl)) Q E s:=by
 have htake:sizeOk (.seq ((items.toList.drop (sIx items.size 0 lo)).take (sIx items.size items.size hi - sIx items.size 0 lo)).toArray):=by
  show ((items.toList.drop (sIx items.size 0 lo)).take (sIx items.size items.size hi - sIx items.size 0 lo)).toArray.size<=sizeLine;rw [aW,be,List.length_drop,Array.length_toList];omega
 have hj:sIx items.size items.size hi<=items.size:=zeW _ _ (Nat.le_refl _) hi;obtain ⟨os,hos,hcs,hds⟩:=id hs;have hTs:s.TypeIs (.ref sl) "slice" := ⟨os,hos,hcs⟩
 unfold getItem
 try with_reducible refine wpAny_holding ?_
 first | refine ah (aC ?_) | skip
 refine ah (wpAny_sequenceKey ht.typeIs (by decide) ?_);refine ah (wpAny_callSpecial?_slot (name:=Str.ofString "__getitem__") ht.typeIs PyProof.Rows.slot_tuple_getitem
  (wpAny_call_entry PyProof.Rows.slot_tuple_getitem ht.typeIs entry_tuple_getitem ?_ (args_tuple_getitem _ _)))
 show wpAny _ _ (Builtin.Tuple.tupleItemsOf (.ref t) >>= _) _ _ s;refine ah (tupleItemsOf_ ht ?_);refine ah (wpAny_typeOf hTs ?_);rw [if_pos (by decide)];refine ah (zfH hs pl pu ?_);have hno:¬ ((((sIx items.size 0 lo:Nat):Int) == 0 && (1:Int) == 1 && (sIx items.size items.size hi - sIx items.size 0 lo) == items.size)=true):=by
  intro q;rw [Bool.and_eq_true,Bool.and_eq_true] at q;have q1:((sIx items.size 0 lo:Nat):Int)=0:=eq_of_beq q.1.1;have q2:sIx items.size items.size hi - sIx items.size 0 lo=items.size:=eq_of_beq q.2;exact hw ⟨by omega,by omega⟩
 show wpAny _ _ (if (((sIx items.size 0 lo:Nat):Int) == 0 && (1:Int) == 1 && (sIx items.size items.size hi - sIx items.size 0 lo) == items.size)=true then _ else _) _ _ s;rw [if_neg hno,zd5]
 first
  | exact ah (m:=Builtin.Tuple.tupleExact _) (wpAny_newObj_type (aC ⟨_,rfl,aC h⟩) htake)
  | exact ah (m:=Builtin.Tuple.tupleExact _) (wpAny_newObj_type (ah (aC (aC ⟨_,rfl,aC h⟩))) htake)
  | exact ah (ah (m:=Builtin.Tuple.tupleExact _) (wpAny_newObj_type (aC (aC ⟨_,rfl,aC h⟩)) htake))
  | exact ah (ah (m:=Builtin.Tuple.tupleExact _) (wpAny_newObj_type (aC ⟨_,rfl,aC h⟩) htake))
end HT
noncomputable abbrev TO:=St->Hp->(Option Int->Hp->Prop)->Prop
noncomputable def PO(X:Cx)(e:Option Expr)(t:TO):Prop:=
 ∀ (pins:List (Addr × Obj)) (s:Shared) (σ:St) (H:Hp) (Q:Option Int->Hp->Prop),Inv X pins σ H s->t σ H Q->
  wpAny (model X.prog X.w) X.A (evalPart e X.env) (λ u s'=>∃ o H',Inv X pins σ H' s'/\IsPart u o/\Q o H') X.xe s
noncomputable def zgg:TO:=λ _ H Q=>Q none H
noncomputable def zgj(t:TE):TO:=λ σ H Q=>t σ H λ x H1=>∃ i,x = .int i/\Q (some i) H1
theorem j5  : ∀ {us:List Value},Vals (ns.map V.int) us->IntsAre us ns:=by
 induction ns with
 | nil=>intro us r;rw [List.map_nil] at r;cases r;exact .nil
 | cons n ns ih=>
  intro us r;rw [List.map_cons] at r;cases r with
  | cons r1 r2=>
   obtain ⟨t,e⟩:=r1;subst e;exact .cons n t (ih r2)
section
variable {lo hi:Option Expr} {tl th:TO}
theorem d9:PO X none zgg:=by
 intro pins s σ H Q I h;rw [evalPart_none];exact aC ⟨none,H,I,.none,h⟩
theorem cL(h:PE X e te):PO X (some e) (zgj te):=by
 intro pins s σ H Q I hw;rw [evalPart_some];refine thn (h pins s σ H _ I hw) λ u s1 ⟨x,H1,I1,r1,q1⟩=>?_;obtain ⟨i,rfl,q⟩:=q1;obtain ⟨t,rfl⟩:=r1;exact ⟨some i,H1,I1,.int i t,q⟩
noncomputable def SlR(X:Cx)(r:V->Option Int->Option Int->Hp->VK->Prop):Prop:=
 ∀ (pins:List (Addr × Obj)) (s:Shared) (σ:St) (H:Hp) (x:V) (v vl vu:Value) (lo hi:Option Int) (sl:Addr) (Q:VK),Inv X pins σ H s->RelV x v->s.heap.IsSliceOf sl vl vu .none->IsPart vl lo->IsPart vu hi->r x lo hi H Q->
  ∃ T id,typeLookup (.type T) "__getitem__" = pure (some (.builtin id))/\s.TypeIs v T/\wpAny (model X.prog X.w) X.A (getItem v (.ref sl)) (EP X pins σ Q) X.xe s
theorem SlR.or{r r':V->Option Int->Option Int->Hp->VK->Prop}(h:SlR X r)(h':SlR X r'):SlR X (λ x lo hi H Q=>r x lo hi H Q\/r' x lo hi H Q):=by
 intro pins s σ H x v vl vu lo hi sl Q I rx hs pl pu q;rcases q with q | q
 ·exact h pins s σ H x v vl vu lo hi sl Q I rx hs pl pu q
 ·exact h' pins s σ H x v vl vu lo hi sl Q I rx hs pl pu q
noncomputable def tSl(r:V->Option Int->Option Int->Hp->VK->Prop)(te:TE)(tl th:TO):TE:=λ σ H Q=>te σ H λ x H1=>tl σ H1 λ l H2=>th σ H2 λ u H3=>r x l u H3 Q
theorem dk{r:V->Option Int->Option Int->Hp->VK->Prop}(hr:SlR X r)(he:PE X e te)(hl:PO X lo tl)(hu:PO X hi th):PE X (.Subscript e (.Slice lo hi none p2) pos) (tSl r te tl th):=by
 intro pins s σ H Q I h;refine Subscript_ (thn (he pins s σ H _ I h) λ v s1 ⟨x,H1,I1,r1,q1⟩=>?_);refine wpAny_Slice (thn (hl pins s1 σ H1 _ I1 q1) λ vl s2 ⟨l,H2,I2,pl,q2⟩=>thn (hu pins s2 σ H2 _ I2 q2) λ vu s3 ⟨u,H3,I3,pu,q3⟩=>?_);rw [evalPart_none];refine aC ?_;have I4:Inv X pins σ H3 { s3 with heap:=s3.heap.push { cls:=.type "slice", data:=.fields #[vl,vu,.none] } }:=I3.kept (t':=s3.toks) λ b ob q=>aU _ q;obtain ⟨T,id,hT,ht,hg⟩:=hr pins { s3 with heap:=s3.heap.push { cls:=.type "slice", data:=.fields #[vl,vu,.none] } } σ H3 x v vl vu l u s3.heap.objs.size Q I4 r1 (Heap.IsSliceOf.new ..) pl pu q3;show wpAny (model X.prog X.w) X.A (subscriptTail e (.Slice lo hi none p2) v (.ref s3.heap.objs.size)) (EP X pins σ Q) X.xe { s3 with heap:=s3.heap.push { cls:=.type "slice", data:=.fields #[vl,vu,.none] } };exact tail_any (ops:=[.ref s3.heap.objs.size,v]) ht hT hg (by with_unfolding_all rfl)
noncomputable def bw(xs:List V)(lo hi:Option Int):List V:=(xs.drop (HT.sIx xs.length 0 lo)).take (HT.sIx xs.length xs.length hi - HT.sIx xs.length 0 lo)
theorem rD(xs:List V)(lo hi:Option Int):(bw xs lo hi).length<=xs.length:=by
 unfold bw;rw [be,List.length_drop];omega
noncomputable def ut(K:W.Frag):V->Option Int->Option Int->Hp->VK->Prop:=λ x lo hi H Q=>∃ a xs,x = .ref a/\SqT K H a xs/\
 ¬ (HT.sIx xs.length 0 lo=0/\HT.sIx xs.length xs.length hi=xs.length)/\∀ p,H p=none->Q (.ref p) (upd H p (.tup (bw xs lo hi)))
theorem zfG:SlR X (ut X.K):=by
 intro pins s σ H x v vl vu lo hi sl Q I rx hs pl pu h;obtain ⟨a,xs,rfl,hx,hw,q⟩:=h;cases rx;obtain ⟨its,r,ht,hz⟩:=I.tuple hx;have hlen:its.toArray.size=xs.length:=by rw [aW];exact r.length.symm
 refine ⟨"tuple", _,PyProof.Rows.slot_tuple_getitem.lookup,ht.typeIs,?_⟩;refine HT.getItem_tuple_cut ht hs pl pu (by rw [hlen];exact hw) ?_ (by rw [hlen];exact hz);rw [hlen];refine ⟨.ref s.heap.objs.size,_,I.laid (t':=s.toks) (o:=.tup (bw xs lo hi)) (λ b ob q=>aU _ q) (Nat.le_refl _) ?_,rfl,q _ (I.hok.fresh (Nat.le_refl _))⟩;exact ⟨Nat.le_trans (rD xs lo hi) hz,_,(r.drop (HT.sIx xs.length 0 lo)).take (HT.sIx xs.length xs.length hi - HT.sIx xs.length 0 lo),IsTup.new _ _⟩
noncomputable def kq(K:W.Frag):R2:=λ x y H Q=>∃ a b xs ys,x = .ref a/\y = .ref b/\SqT K H a xs/\SqT K H b ys/\xs≠[]/\xs.length+ys.length<=sizeLine/\
 (ys=[]->Q (.ref a) H)/\(ys≠[]->∀ p,H p=none->Q (.ref p) (upd H p (.tup (xs++ys))))
theorem Vals.nil_iff(r:Vals xs us):us=[]↔xs=[]:=by
 cases r with
 | nil=>simp
 | cons _ _=>simp
theorem zdA:OpR X (binaryOp .Add) (kq X.K):=by
 intro pins s σ H x y v u Q I rx ry h;obtain ⟨a,b,xs,ys,rfl,rfl,ha,hb,hx,hz,q1,q2⟩:=h;cases rx;cases ry;obtain ⟨its,r1,p1,_⟩:=I.tuple ha;obtain ⟨its2,r2,p2,_⟩:=I.tuple hb;refine HT.cat_tup p1 p2 (λ z=>hx (r1.nil_iff.mp z)) (λ z=>⟨.ref a,H,I,rfl,q1 (r2.nil_iff.mp z)⟩) (λ z=>?_) (by rw [← r1.length,← r2.length];exact hz);refine ⟨.ref s.heap.objs.size,_,I.laid (t':=s.toks) (o:=.tup (xs++ys)) (λ b ob q=>aU _ q) (Nat.le_refl _) ?_,rfl,q2 (λ w=>z (r2.nil_iff.mpr w)) _ (I.hok.fresh (Nat.le_refl _))⟩;exact ⟨by rw [bc];exact hz,_,r1.append r2,IsTup.new _ _⟩
end
noncomputable def ixN(n:Nat)(i:Int):Option Nat:=if 0<=i then (if i < n then some i.toNat else none) else if -(n:Int)<=i then some (i+n).toNat else none
noncomputable def atI(xs:List α)(i:Int):Option α:=(ixN xs.length i).bind λ j=>xs[j]?
theorem sC{i:Int}(h:ixN n i=some j):seqIndex? i n=some j/\j < n/\-(n:Int)<=i/\i < n:=by
 unfold ixN at h;by_cases h0:0<=i
 ·rw [if_pos h0] at h;by_cases h1:i < n
  ·rw [if_pos h1] at h;have e:i.toNat=j:=Option.some.inj h;exact ⟨by rw [seqIndex_of h0 h1,e],by omega,by omega,h1⟩
  ·rw [if_neg h1] at h;cases h
 ·rw [if_neg h0] at h;by_cases h1 : -(n:Int)<=i
  ·rw [if_pos h1] at h;have e:(i+n).toNat=j:=Option.some.inj h;exact ⟨by rw [seqIndex_neg (by omega) h1,e],by omega,h1,by omega⟩
  ·rw [if_neg h1] at h;cases h
theorem qv{xs:List α}{i:Int}{v:α}(h:atI xs i=some v):∃ j,seqIndex? i xs.length=some j/\xs[j]?=some v/\j < xs.length/\-(xs.length:Int)<=i/\i < xs.length:=by
 unfold atI at h;cases e:ixN xs.length i with
 | none=>rw [e] at h;cases h
 | some j=>
  rw [e] at h;obtain ⟨h1,h2,h3,h4⟩:=sC e;exact ⟨j,h1,h,h2,h3,h4⟩
theorem dG{xs:List α}{v:α}(h:xs[j]?=some v):atI xs (j:Int)=some v:=by
 have hj:j < xs.length:=(al_gs.mp h).1;have e:ixN xs.length (j:Int)=some j:=by
  unfold ixN;rw [if_pos (by omega),if_pos (by omega)];simp
 unfold atI;rw [e];exact h
theorem lL(xs:List α)(v:α):atI (xs++[v]) (-1)=some v:=by
 have hl:(xs++[v]).length=xs.length+1:=by simp
 have e:ixN (xs++[v]).length (-1)=some xs.length:=by
  unfold ixN;rw [hl,if_neg (by decide),if_pos (by omega)]
  congr 1
  omega
 unfold atI;rw [e];show (xs++[v])[xs.length]?=some v;simp
noncomputable def xh(b:Expr):Prop:=∀ o i,subscripted b false o i=operate [o,i] (getItem o i)
noncomputable def IxR(X:Cx)(r:R2):Prop:=
 ∀ (value slice:Expr) (pins:List (Addr × Obj)) (s:Shared) (σ:St) (H:Hp) (x y:V) (v u:Value) (Q:VK),Inv X pins σ H s->RelV x v->RelV y u->r x y H Q->
  subscripted slice false v u=operate [v,u] (getItem v u)->wpAny (model X.prog X.w) X.A (subscriptTail value slice v u) (EP X pins σ Q) X.xe s
noncomputable def MtR(X:Cx)(id:String)(r:V->List V->Hp->VK->Prop):Prop:=
 ∀ (pins:List (Addr × Obj)) (s:Shared) (σ:St) (H:Hp) (x:V) (xs:List V) (v:Value) (us:List Value) (Q:VK),Inv X pins σ H s->RelV x v->Vals xs us->r x xs H Q->
  wpAny (model X.prog X.w) X.A (call (.builtin id) (v::us)) (EP X pins σ Q) X.xe s
section
variable {a b:Expr} {tb:TE}
theorem IxR.or{r:R2}(h:IxR X r)(h':IxR X r'):IxR X (λ x y H Q=>r x y H Q\/r' x y H Q):=by
 intro value slice pins s σ H x y v u Q I rx ry q hs;rcases q with q | q
 ·exact h value slice pins s σ H x y v u Q I rx ry q hs
 ·exact h' value slice pins s σ H x y v u Q I rx ry q hs
theorem MtR.or{id:String}{r':V->List V->Hp->VK->Prop}(h:MtR X id r)(h':MtR X id r'):MtR X id (λ x xs H Q=>r x xs H Q\/r' x xs H Q):=by
 intro pins s σ H x xs v us Q I rx rs q;rcases q with q | q
 ·exact h pins s σ H x xs v us Q I rx rs q
 ·exact h' pins s σ H x xs v us Q I rx rs q
theorem aN{r:R2}(hr:IxR X r)(ha:PE X a ta)(hb:PE X b tb)(hs:xh b):PE X (.Subscript a b pos) (tOp r ta tb):=by
 intro pins s σ H Q I h;exact Subscript_ (lP ha hb I h λ v u s2 x y H2 I2 rx ry q=>hr a b pins s2 σ H2 x y v u Q I2 rx ry q (hs _ _))
noncomputable def uj(K:W.Frag):R2:=λ x y H Q=>∃ p xs i v,x = .ref p/\y = .int i/\SqL K H p xs/\atI xs i=some v/\Q v H
noncomputable def uk(K:W.Frag):R2:=λ x y H Q=>∃ p xs i v,x = .ref p/\y = .int i/\SqT K H p xs/\atI xs i=some v/\Q v H
theorem sD:IxR X (uj X.K):=by
 intro value slice pins s σ H x y v u Q I rx ry h hs;obtain ⟨p,xs,i,z,rfl,rfl,hq,he,q⟩:=h;cases rx;obtain ⟨t,rfl⟩:=ry;obtain ⟨its,r,pl,hz⟩:=I.list hq;obtain ⟨j,h1,h2,h3,h4,h5⟩:=qv he;obtain ⟨w,ew,rw'⟩:=r.get h2;have hl:=r.length;have hn:=gv;have fin:EP X pins σ Q w s:=⟨z,H,I,rw',q⟩
 by_cases h0:0<=i
 ·have hj:i.toNat=j:=by
   rw [seqIndex_of h0 h5] at h1;exact Option.some.inj h1
  exact item_listR pl.isList h0 (by omega) (by rw [hj];simpa using ew) fin hs
 ·have hj:(i+(its.toArray.size:Int)).toNat=j:=by
   rw [seqIndex_neg (by omega) h4] at h1;rw [aW,← hl];exact Option.some.inj h1
  exact subscriptTail_builtinR (x:=w) pl.isList.typeIs slot_list_getitem.lookup
   (wpAny_getItem_list_neg (Q:=λ r s'=>r=w/\EP X pins σ Q r s') pl.isList (by omega) (by rw [aW] <;> omega) (by omega) (by rw [hj];simpa using ew) ⟨rfl,fin⟩) hs
theorem sE:IxR X (uk X.K):=by
 intro value slice pins s σ H x y v u Q I rx ry h hs;obtain ⟨p,xs,i,z,rfl,rfl,hq,he,q⟩:=h;cases rx;obtain ⟨t,rfl⟩:=ry;obtain ⟨its,r,pl,hz⟩:=I.tuple hq;obtain ⟨j,h1,h2,h3,h4,h5⟩:=qv he;obtain ⟨w,ew,rw'⟩:=r.get h2;have hl:=r.length;have hn:=gv;have fin:EP X pins σ Q w s:=⟨z,H,I,rw',q⟩
 exact subscriptTail_builtinR (x:=w) pl.typeIs slot_tuple_getitem.lookup
  (getItem_tuple (j:=j) (Q:=λ r s'=>r=w/\EP X pins σ Q r s') pl (by omega) (by omega) (by rw [aW,← hl];exact h1) (by simpa using ew) ⟨rfl,fin⟩) hs
theorem zaZ(its:List Value)(n j:Nat)(u:Value):Obj.mapSeq (·.setIfInBounds j u) { cls:=.type "list", data:=.seq its.toArray n }={ cls:=.type "list", data:=.seq (its.set j u).toArray n }:=by
 simp [Obj.mapSeq]
theorem Inv.lst{p:Addr}(I:Inv X pins σ H s)(h:H p=some (.lst xs)):
  ∃ (its:List Value) (n:Nat),Vals xs its/\s.heap.get? p=some { cls:=.type "list", data:=.seq its.toArray n }/\xs.length<=sizeLine:=by
 obtain ⟨z,its,n,r,e⟩:=I.hok p _ h;exact ⟨its,n,r,e,z⟩
theorem Inv.lstUpd{p:Addr}{n':Nat}{f:Obj->Obj}(I:Inv X pins σ H s)(h:H p=some (.lst xs))(ho:s.heap.get? p=some { cls:=.type "list", data:=.seq its.toArray n })(hf:f { cls:=.type "list", data:=.seq its.toArray n }={ cls:=.type "list", data:=.seq its'.toArray n' })(r:Vals ys its')(hz:ys.length<=sizeLine)(t:Nat):
  Inv X pins σ (upd H p (.lst ys)) { s with heap:=s.heap.update p f,toks:=t }:=by
 have e:(s.heap.update p f).get? p=some { cls:=.type "list", data:=.seq its'.toArray n' }:=by
  rw [Heap.get?_update_self f ho (by rw [hf] <;> rfl),hf]
 refine I.write (x:=p) (e:=p) (by rw [h];trivial) (.inl rfl) (λ b u hb q=>(Heap.get?_update_other _ _ (Ne.symm hb)).trans q) ⟨_,e⟩ ?_;exact ⟨hz,its',n',r,e⟩
noncomputable def zeE:V->V->V->Hp->(Hp->Prop)->Prop:=λ o i v H Q=>∃ p xs k j,o = .ref p/\i = .int k/\H p=some (.lst xs)/\ixN xs.length k=some j/\Q (upd H p (.lst (xs.set j v)))
theorem zfD:qi X zeE:=by
 intro pins s σ H o i v ov iv u Q I ro ri rv h;obtain ⟨p,xs,k,j,rfl,rfl,hp,hj,q⟩:=h;cases ro;obtain ⟨t,rfl⟩:=ri;obtain ⟨its,n,r,ho,hz⟩:=I.lst hp;obtain ⟨h1,h2,h3,h4⟩:=sC hj;have hl:=r.length;have hn:=gv;have I':Inv X pins σ (upd H p (.lst (xs.set j v))) { s with heap:=s.heap.update p (Obj.mapSeq (·.setIfInBounds j u)) }:=
  I.lstUpd hp ho (zaZ its n j u) (r.set rv j) (by rw [List.length_set];exact hz) s.toks
 by_cases h0:0<=k
 ·have hk:k.toNat=j:=by
   rw [seqIndex_of h0 h4] at h1;exact Option.some.inj h1
  exact W.ki_setAt ho h0 (by omega) (by rw [aW,← hl];exact h4) (by rw [hk];exact ⟨_,I',q⟩)
 ·have hk:(k+(its.toArray.size:Int)).toNat=j:=by
   rw [seqIndex_neg (by omega) h3] at h1;rw [aW,← hl];exact Option.some.inj h1
  exact W.ki_setBack ho (by omega) (by rw [aW,← hl];exact h3) (by omega) (by rw [hk];exact ⟨_,I',q⟩)
theorem rj(n:Nat)(i:Int):(if (1:Int) > 0 then max 0 (min (if i < 0 then i+n else i) (n:Int)) else max (-1) (min (if i < 0 then i+n else i) ((n:Int) - 1)))=((HT.sIx n 0 (some i):Nat):Int):=by
 rw [if_pos (by decide)];show _=((if i < 0 then (i+(n:Int)).toNat else min i.toNat n:Nat):Int)
 by_cases h:i < 0
 ·rw [if_pos h,if_pos h,Int.min_eq_left (by omega),Int.max_comm];exact (Int.ofNat_toNat _).symm
 ·rw [if_neg h,if_neg h];obtain ⟨k,rfl⟩:=Int.eq_ofNat_of_zero_le (Int.not_lt.mp h);rw [Int.toNat_natCast];rcases Nat.le_total k n with z | z
  ·rw [Nat.min_eq_left z,Int.min_eq_left (Int.ofNat_le.mpr z)];exact Int.max_eq_right (Int.natCast_nonneg _)
  ·rw [Nat.min_eq_right z,Int.min_eq_right (Int.ofNat_le.mpr z)];exact Int.max_eq_right (Int.natCast_nonneg _)
theorem zfJ(lo hi:Option Int)(n:Nat):(sliceBounds lo hi none n).1=((HT.sIx n 0 lo:Nat):Int)/\(sliceBounds lo hi none n).2.1=((HT.sIx n n hi:Nat):Int)/\(sliceBounds lo hi none n).2.2=1:=by
 refine ⟨?_,?_,rfl⟩
 ·cases lo with
  | none=>rfl
  | some i=>exact rj n i
 ·cases hi with
  | none=>rfl
  | some i=>exact rj n i
theorem zfI(its:List Value)(lo hi:Option Int):slicePick its.toArray lo hi none=((its.drop (HT.sIx its.length 0 lo)).take (HT.sIx its.length its.length hi - HT.sIx its.length 0 lo)).toArray:=by
 obtain ⟨h1,h2,h3⟩:=zfJ lo hi its.toArray.size;unfold slicePick;rw [h1,h2,h3];simp only [sliceRange_one,pick_run,aW] <;> rfl
noncomputable def ur(K:W.Frag):V->Option Int->Option Int->Hp->VK->Prop:=λ x lo hi H Q=>∃ a xs,x = .ref a/\SqL K H a xs/\∀ p,H p=none->Q (.ref p) (upd H p (.lst (bw xs lo hi)))
theorem zfF:SlR X (ur X.K):=by
 intro pins s σ H x v vl vu lo hi sl Q I rx hs pl pu h;obtain ⟨a,xs,rfl,hx,q⟩:=h;cases rx;obtain ⟨its,r,ht,hz⟩:=I.list hx;have hlen:=r.length;refine ⟨"list", _,slot_list_getitem.lookup,ht.isList.typeIs,?_⟩;refine wpAny_getItem_list_slice ht.isList hs pl pu .none (by simp) ?_ (by rw [aW] <;> omega);rw [zfI,← hlen];refine ⟨.ref s.heap.objs.size,_,I.laid (t':=s.toks) (o:=.lst (bw xs lo hi)) (λ b ob q=>aU _ q) (Nat.le_refl _) ?_,rfl,q _ (I.hok.fresh (Nat.le_refl _))⟩;exact ⟨Nat.le_trans (rD xs lo hi) hz,_,0,(r.drop (HT.sIx xs.length 0 lo)).take (HT.sIx xs.length xs.length hi - HT.sIx xs.length 0 lo),Heap.get?_push_size _ rfl⟩
noncomputable def cj:V->Bool
 | .non=>true
 | .bl _=>true
 | .int _=>true
 | .str _=>true
 | _=>false
noncomputable def eqV:V->V->Bool
 | .non,.non=>true
 | .bl a,.bl b=>a == b
 | .bl a,.int b=>(if a then 1 else 0) == b
 | .int a,.bl b=>a == (if b then 1 else 0)
 | .int a,.int b=>a == b
 | .str a,.str b=>a == b
 | _,_=>false
theorem rQ{y x:V}(ry:RelV y u)(rx:RelV x v)(fy:cj y=true)(fx:cj x=true):SeqAt.EqAt A s u v (eqV y x):=by
 cases y with
 | non=>
  cases ry;cases x with
  | non=>cases rx;exact SeqAt.EqAt.same _
  | bl b=>cases rx;exact SeqAt.EqAt.none_bool b
  | int b=>obtain ⟨t,rfl⟩:=rx;exact SeqAt.EqAt.none_int b t
  | str b=>obtain ⟨t,rfl⟩:=rx;exact SeqAt.EqAt.none_str b t
  | _=>exact absurd (show false=true from fx) bi
 | bl a=>
  cases ry;cases x with
  | non=>cases rx;exact SeqAt.EqAt.bool_none a
  | bl b=>cases rx;exact SeqAt.EqAt.bool_bool a b
  | int b=>obtain ⟨t,rfl⟩:=rx;exact SeqAt.EqAt.bool_int a b t
  | str b=>obtain ⟨t,rfl⟩:=rx;exact SeqAt.EqAt.bool_str a b t
  | _=>exact absurd (show false=true from fx) bi
 | int a=>
  obtain ⟨t',rfl⟩:=ry;cases x with
  | non=>cases rx;exact SeqAt.EqAt.int_none a t'
  | bl b=>cases rx;exact SeqAt.EqAt.int_bool a t' b
  | int b=>obtain ⟨t,rfl⟩:=rx;exact SeqAt.EqAt.int_int a t' b t
  | str b=>obtain ⟨t,rfl⟩:=rx;exact SeqAt.EqAt.int_str a t' b t
  | _=>exact absurd (show false=true from fx) bi
 | str a=>
  obtain ⟨t',rfl⟩:=ry;cases x with
  | non=>cases rx;exact SeqAt.EqAt.str_none a t'
  | bl b=>cases rx;exact SeqAt.EqAt.str_bool a t' b
  | int b=>obtain ⟨t,rfl⟩:=rx;exact SeqAt.EqAt.str_int a t' b t
  | str b=>obtain ⟨t,rfl⟩:=rx;exact SeqAt.EqAt.str_str a t' b t
  | _=>exact absurd (show false=true from fx) bi
 | _=>exact absurd (show false=true from fy) bi
noncomputable def eqU(x:V)(u:Value):Bool:=match u with
 | .none=>eqV .non x
 | .bool b=>eqV (.bl b) x
 | .int i _=>eqV (.int i) x
 | .str z _=>eqV (.str z) x
 | _=>false
theorem iR{x y:V}(r:RelV y u)(f:cj y=true):eqU x u=eqV y x:=by
 cases y with
 | non=>cases r;rfl
 | bl b=>cases r;rfl
 | int i=>obtain ⟨t,rfl⟩:=r;rfl
 | str z=>obtain ⟨t,rfl⟩:=r;rfl
 | _=>exact absurd (show false=true from f) bi
theorem iN{x:V}:∀ {xs:List V} {us:List Value},Vals xs us->xs.all cj=true->us.any (eqU x)=xs.any λ y=>eqV y x
 | _,_,.nil,_=>rfl
 | y::xs,u::us,.cons r t,f=>by
  rw [List.all_cons,Bool.and_eq_true] at f;rw [List.any_cons,List.any_cons,iR r f.1,iN t f.2]
theorem fY{A:Around}{s:Shared}{x:V}{v:Value}(rx:RelV x v)(fx:cj x=true):∀ {xs:List V} {us:List Value},Vals xs us->xs.all cj=true->∀ u∈us,SeqAt.EqAt A s u v (eqU x u)
 | _,_,.nil,_=>λ u hu=>by cases hu
 | y::xs,u::us,.cons r t,f=>λ u' hu=>by
  rw [List.all_cons,Bool.and_eq_true] at f;rcases al_mc.mp hu with rfl | hu
  ·rw [iR r f.1];exact rQ r rx f.1 fx
  ·exact fY rx fx t f.2 u' hu
noncomputable def inV(x:V)(xs:List V):Bool:=xs.any λ y=>eqV y x
noncomputable def rIn(K:W.Frag)(neg:Bool):R2:=λ x y H Q=>∃ p xs,y = .ref p/\(SqL K H p xs\/SqT K H p xs)/\cj x=true/\xs.all cj=true/\Q (.bl (if neg then !inV x xs else inV x xs)) H
theorem zdD:OpR X (compareOp .In) (rIn X.K false):=by
 intro pins s σ H x y v u Q I rx ry h;obtain ⟨p,xs,rfl,hq,fx,fs,q⟩:=h;cases ry;rcases hq with hq | hq
 ·obtain ⟨its,r,pl,hz⟩:=I.list hq;refine SeqAt.in_listAt (eqU x) pl.isList (λ w hw=>fY rx fx r fs w (by simpa using hw)) ⟨.bl _,H,I,rfl,?_⟩;rw [show its.toArray.any (eqU x)=its.any (eqU x) by simp,iN r fs];exact q
 ·obtain ⟨its,r,pl,hz⟩:=I.tuple hq;refine SeqAt.in_tupleAt (eqU x) pl (λ w hw=>fY rx fx r fs w (by simpa using hw)) ⟨.bl _,H,I,rfl,?_⟩;rw [show its.toArray.any (eqU x)=its.any (eqU x) by simp,iN r fs];exact q
theorem zdE:OpR X (compareOp .NotIn) (rIn X.K true):=by
 intro pins s σ H x y v u Q I rx ry h;obtain ⟨p,xs,rfl,hq,fx,fs,q⟩:=h;cases ry;rcases hq with hq | hq
 ·obtain ⟨its,r,pl,hz⟩:=I.list hq;refine SeqAt.notIn_listAt (eqU x) pl.isList (λ w hw=>fY rx fx r fs w (by simpa using hw)) ⟨.bl _,H,I,rfl,?_⟩;rw [show its.toArray.any (eqU x)=its.any (eqU x) by simp,iN r fs];exact q
 ·obtain ⟨its,r,pl,hz⟩:=I.tuple hq;refine SeqAt.notIn_tupleAt (eqU x) pl (λ w hw=>fY rx fx r fs w (by simpa using hw)) ⟨.bl _,H,I,rfl,?_⟩;rw [show its.toArray.any (eqU x)=its.any (eqU x) by simp,iN r fs];exact q
theorem qX:CallR X (.builtin "len") (λ xs H Q=>∃ p ys,xs=[.ref p]/\(SqL X.K H p ys\/SqT X.K H p ys)/\Q (.int ys.length) H):=by
 intro pins s σ H xs us Q I r h;obtain ⟨p,ys,rfl,hq,q⟩:=h;obtain ⟨u,rfl,rx⟩:=db r;cases rx;have hn:=gv;rcases hq with hq | hq
 ·obtain ⟨its,r',pl,hz⟩:=I.list hq;have hlen:=r'.length;exact Calls.call_len_list pl.isList (by simp only [aW] <;> omega) ⟨.int ys.length,H,I.tok _,⟨s.toks+1,by rw [aW,hlen]⟩,q⟩
 ·obtain ⟨its,r',pl,hz⟩:=I.tuple hq;have hlen:=r'.length;exact len_tuple pl (by simp only [aW] <;> omega) ⟨.int ys.length,H,I.tok _,⟨s.toks+1,by rw [aW,hlen]⟩,q⟩
theorem lT:CallR X (.builtin "len") (λ xs H Q=>∃ z,xs=[.str z]/\z.length<=sizeLine/\Q (.int z.length) H):=by
 intro pins s σ H xs us Q I r h;obtain ⟨z,rfl,hz,q⟩:=h;obtain ⟨u,rfl,t,rfl⟩:=db r;have hn:=gv;exact len_str (by omega) ⟨.int z.length,H,I.tok _,⟨_,rfl⟩,q⟩
theorem CallR.or{f:Value}{r r':List V->Hp->VK->Prop}(h:CallR X f r)(h':CallR X f r'):CallR X f (λ xs H Q=>r xs H Q\/r' xs H Q):=by
 intro pins s σ H xs us Q I rs q;rcases q with q | q
 ·exact h pins s σ H xs us Q I rs q
 ·exact h' pins s σ H xs us Q I rs q
theorem ye:CallR X (.type "tuple") (λ xs H Q=>∃ p ys,xs=[.ref p]/\((SqL X.K H p ys/\∀ l,H l=none->Q (.ref l) (upd H l (.tup ys)))\/(SqT X.K H p ys/\Q (.ref p) H))):=by
 intro pins s σ H xs us Q I r h;obtain ⟨p,ys,rfl,h⟩:=h;obtain ⟨u,rfl,rx⟩:=db r;cases rx;rcases h with ⟨hq,q⟩ | ⟨hq,q⟩
 ·obtain ⟨its,r',pl,hz⟩:=I.list hq;have hlen:=r'.length;refine call_tuple_list pl.isList (λ h' kp=>?_) (by simp only [aW] <;> omega);have I1:Inv X pins σ H { s with heap:=h' }:=I.kept (t':=s.toks) kp;have I2:Inv X pins σ (upd H h'.objs.size (.tup ys)) { s with heap:=h'.push { cls:=.type "tuple", data:=.seq its.toArray } }:=
   I1.laid (t':=s.toks) (λ b o e=>aU _ e) (Nat.le_refl _) (show ObjOk X.prog X.w _ _ _ (.tup ys) from ⟨hz,its,r',IsTup.new _ _⟩)
  exact ⟨.ref h'.objs.size,_,I2,rfl,q _ (I1.hok.fresh (Nat.le_refl _))⟩
 ·obtain ⟨its,r',pl,hz⟩:=I.tuple hq;exact call_tuple_same pl ⟨.ref p,H,I,rfl,q⟩
noncomputable def tyV(K:W.Frag)(T:String)(x:V)(H:Hp):Prop:=match x with
 | .str _=>T = "str"
 | .int _=>T = "int"
 | .ref p=>(T = "list" /\ ∃ xs,SqL K H p xs)\/(T = "tuple" /\ ∃ o,K.lookup p=some o/\o.cls = .type "tuple" /\ o.dict=none)\/
   (T = "dict" /\ ((∃ kvs,H p=some (.dK kvs))\/∃ kvs,H p=some (.dT kvs)))\/(T = "set" /\ ∃ S n,H p=some (.set S n))
 | _=>False
theorem vX{T:String}{x:V}(I:Inv X pins σ H s)(r:RelV x v)(ty:tyV X.K T x H):
  s.TypeIs v T/\∀ a,v = .ref a->∃ ob,s.heap.get? a=some ob/\ob.dict=none:=by
 cases x with
 | str z=>
  obtain ⟨t,rfl⟩:=r;cases (show T = "str" from ty);exact ⟨typeIs_str s z t,λ _ e=>nomatch e⟩
 | int i=>
  obtain ⟨t,rfl⟩:=r;cases (show T = "int" from ty);exact ⟨typeIs_int s i t,λ _ e=>nomatch e⟩
 | ref p=>
  cases r;rcases ty with ⟨rfl,xs,hq⟩ | ⟨rfl,o,hk,hc,hd⟩ | ⟨rfl,hk⟩ | ⟨rfl,S,n,hk⟩
  ·obtain ⟨its,_,pl,_⟩:=I.list hq;refine ⟨pl.isList.typeIs,λ a e=>?_⟩;cases e;obtain ⟨o,n,e,c,hd,_⟩:=pl;exact ⟨o,e,hd⟩
  ·refine ⟨⟨o,I.kIn p o hk,hc⟩,λ a e=>?_⟩;cases e;exact ⟨o,I.kIn _ o hk,hd⟩
  ·have z:∃ o,s.heap.get? p=some o/\o.ExactDict:=by
    rcases hk with ⟨kvs,hk⟩ | ⟨kvs,hk⟩
    ·obtain ⟨_,_,_,_,o,_,_,e,ex,_⟩:=I.hok p _ hk;exact ⟨o,e,ex⟩
    ·obtain ⟨_,_,_,_,o,_,_,e,ex,_⟩:=I.hok p _ hk;exact ⟨o,e,ex⟩
   obtain ⟨o,e,ex⟩:=z;refine ⟨⟨o,e,ex.1⟩,λ a e2=>?_⟩;cases e2;exact ⟨o,e,ex.2.1⟩
  ·obtain ⟨o,_,_,_,e,ex,_⟩:=I.hok p _ hk;refine ⟨⟨o,e,ex.1⟩,λ a e2=>?_⟩;cases e2;exact ⟨o,e,ex.2.1⟩
 | _=>exact False.elim ty
noncomputable def zf0(K:W.Frag)(T:String)(r:V->List V->Hp->VK->Prop)(to:TE):TE:=λ σ H Q=>to σ H λ x H1=>tyV K T x H1/\r x [] H1 Q
noncomputable def tBM(K:W.Frag)(T:String)(r:V->List V->Hp->VK->Prop)(to:TE)(t:TA):TE:=λ σ H Q=>to σ H λ x H1=>tyV K T x H1/\t σ H1 λ xs H2=>r x xs H2 Q
variable {o:Expr} {t:TA} {T id:String}
theorem zdP(pa:PlainAttrs T)(slot:Slot T name id)(hty:typeOf (.builtin id)=pure (.type "method_descriptor"))(hm:MtR X id r)(ho:PE X o to)(hbase:attributeBase o name X.env (eval o X.env)=eval o X.env:=by rfl)(hline:(apos.endLine == cpos.line)=true:=by rfl):PE X (.Call (.Attribute o name apos) [] [] cpos) (zf0 X.K T r to):=by
 intro pins s σ H Q I h;refine wpAny_Call_method0_late hbase hline (thn (ho pins s σ H _ I h) λ v s1 ⟨x,H1,I1,r1,ty,q1⟩=>?_);obtain ⟨h1,h2⟩:=vX I1 r1 ty;exact ⟨T,id,pa,slot,hty,h1,h2,Calls.callWith_builtin rfl (PySem.evalArgs_none (hm pins s1 σ H1 x [] v [] Q I1 r1 .nil q1))⟩
theorem mT(pa:PlainAttrs T)(slot:Slot T name id)(hty:typeOf (.builtin id)=pure (.type "method_descriptor"))(hm:MtR X id r)(ho:PE X o to)(ha:PA X (e::es) t)(hbase:attributeBase o name X.env (eval o X.env)=eval o X.env:=by rfl)(hfew:((backTo cpos (starEach (e::es) X.env)).all (λ x=>!x.1) && (backToKw cpos (keywordEach [] X.env)).all (λ x=>x.1.isSome)
   && decide ((e::es).length+([]:List Keyword).length+(if ([]:List Keyword).isEmpty then 0 else 1) < 30))=true:=by rfl)(hline:(apos.endLine == cpos.line)=true:=by rfl)(hs:starEach (e::es) X.env=(false,eval e X.env)::starEach es X.env:=by rfl)(hplain:(backTo cpos (starEach es X.env)).any (·.1)=false:=by rfl):
  PE X (.Call (.Attribute o name apos) (e::es) [] cpos) (tBM X.K T r to t):=by
 intro pins s σ H Q I h;refine wpAny_Call_method_late hbase hfew hline rfl (thn (ho pins s σ H _ I h) λ v s1 ⟨x,H1,I1,r1,ty,q1⟩=>?_);obtain ⟨h1,h2⟩:=vX I1 r1 ty;refine ⟨T,id,pa,slot,hty,h1,h2,?_⟩;have hA:=ha cpos pins s1 σ H1 _ I1 q1;rw [hs] at hA ⊢;refine Calls.callWith_builtin (by show (false || (backTo cpos (starEach es X.env)).any (·.1))=false;rw [hplain] <;> rfl) (Calls.evalArgs_plain ?_);exact thn hA λ us s2 ⟨vs,H2,I2,r2,q2⟩=>hm pins s2 σ H2 x vs v us Q I2 r1 r2 q2
end
noncomputable def MtM(X:Cx)(id:String)(r:V->List V->Hp->VK->Prop):Prop:=
 ∀ (pins:List (Addr × Obj)) (s:Shared) (σ:St) (H:Hp) (x:V) (xs:List V) (v:Value) (us:List Value) (Q:VK),Inv X pins σ H s->RelV x v->Vals xs us->r x xs H Q->
  wpAny (model X.prog X.w) X.A (call (.builtin id) (v::us)) (EP X pins σ Q) X.xe s
theorem Vals.one:∀ {x:V} {us:List Value},Vals [x] us->∃ u,us=[u]/\RelV x u
 | _,_,.cons r .nil=>⟨_,rfl,r⟩
theorem Vals.two{x y:V}{us:List Value}(h:Vals [x,y] us):∃ u v,us=[u,v]/\RelV x u/\RelV y v:=iG h
theorem Vals.zero:∀ {us:List Value},Vals [] us->us=[]
 | _,.nil=>rfl
theorem Vals.dropLast(h:Vals xs us):Vals xs.dropLast us.dropLast:=by
 induction h with
 | nil=>exact .nil
 | cons r t ih=>
  cases t with
  | nil=>exact .nil
  | cons q t'=>exact .cons r ih
theorem Vals.reverse(h:Vals xs us):Vals xs.reverse us.reverse:=by
 induction h with
 | nil=>exact .nil
 | cons r t ih=>rw [List.reverse_cons,List.reverse_cons];exact Vals.append ih (.cons r .nil)
theorem Vals.rep{xs:List V}{us:List Value}(h:Vals xs us):∀ k:Nat,Vals (List.replicate k xs).flatten (List.replicate k us).flatten
 | 0=>.nil
 | k+1=>by
  rw [List.replicate_succ,List.replicate_succ,List.flatten_cons,List.flatten_cons];exact Vals.append h (Vals.rep h k)
theorem sd(its:List Value):∀ (k:Nat) (acc:List Value),
  List.foldl (λ x1 x2=>x1++x2) acc.toArray (List.replicate k its.toArray)=(acc++(List.replicate k its).flatten).toArray
 | 0,acc=>by simp
 | k+1,acc=>by
  have e:acc.toArray++its.toArray=(acc++its).toArray:=by simp
  have e2:(acc++its)++(List.replicate k its).flatten=acc++(List.replicate (k+1) its).flatten:=by
   rw [List.replicate_succ,List.flatten_cons,List.append_assoc]
  rw [← e2,← sd its k (acc++its),← e,List.replicate_succ,List.foldl_cons]
section
variable {l:Addr} {zs:List V}
theorem Inv.lset{f:Array Value->Array Value}(I:Inv X pins σ H s)(hH:H l=some (.lst xs))(e:s.heap.get? l=some { cls:=.type "list", data:=.seq its.toArray n })(hf:f its.toArray=its'.toArray)(hv:Vals ys its')(hz:ys.length<=sizeLine):
  Inv X pins σ (upd H l (.lst ys)) { s with heap:=s.heap.update l (Obj.mapSeq f),toks:=t' }:=by
 have q:=PySem.IsL.update e f;rw [hf] at q;refine I.write (x:=l) (e:=l) (by rw [hH];exact trivial) (.inl rfl) (λ b' u hb hu=>(Heap.get?_update_other s.heap (Obj.mapSeq f) (Ne.symm hb)).trans hu) ⟨_,q⟩ ?_;exact ⟨hz,its',_,hv,q⟩
theorem Inv.lnew(I:Inv X pins σ H s)(hv:Vals ys its)(hz:ys.length<=sizeLine):
  Inv X pins σ (upd H s.heap.objs.size (.lst ys)) { s with heap:=s.heap.push { cls:=.type "list", data:=.seq its.toArray },toks:=t' }:=
 I.laid (λ _ _ q=>aU _ q) (Nat.le_refl _) ⟨hz,its,0,hv,Heap.get?_push_size _ rfl⟩
theorem Inv.fresh(I:Inv X pins σ H s):H s.heap.objs.size=none:=I.hok.fresh (Nat.le_refl _)
theorem Inv.lstM(I:Inv X pins σ H s)(hH:H l=some (.lst xs)):xs.length<=sizeLine/\∃ (its:List Value) (n:Nat),Vals xs its/\xs.length=its.length/\s.heap.get? l=some { cls:=.type "list", data:=.seq its.toArray n }:=by
 obtain ⟨z,its,n,r,e⟩:=I.hok l _ hH;exact ⟨z,its,n,r,r.length,e⟩
theorem tH(h:n<=sizeLine):Builtin.List.listTooLong n=false:=by
 unfold Builtin.List.listTooLong;exact aM (by omega)
end
noncomputable def zes:V->List V->Hp->VK->Prop:=λ x vs H Q=>∃ l xs y,x = .ref l/\vs=[y]/\H l=some (.lst xs)/\xs.length < sizeLine/\Q .non (upd H l (.lst (xs++[y])))
theorem im:MtM X "list.append" zes:=by
 intro pins s σ H x vs v us Q I rx rv h;obtain ⟨l,xs,y,rfl,rfl,hH,hz,q⟩:=h;cases rx;obtain ⟨u,rfl,ru⟩:=rv.one;obtain ⟨z,its,n,r,hl,e⟩:=I.lstM hH;refine call_meets F.slot_list_append ⟨_,e,rfl⟩ F.entry_list_append (F.args_list_append_2 _ _) (PySem.list_append l its.toArray n u (by rw [aW];omega)) ⟨e,?_⟩;refine ⟨.non,_,I.lset (its':=its++[u]) hH e (by simp) (r.append (.cons ru .nil)) ?_,rfl,q⟩;rw [bc,dF];omega
noncomputable def zeu:V->List V->Hp->VK->Prop:=λ x vs H Q=>∃ l b xs zs,x = .ref l/\vs=[.ref b]/\H l=some (.lst xs)/\H b=some (.lst zs)/\xs.length+zs.length<=sizeLine/\Q .non (upd H l (.lst (xs++zs)))
theorem sV:MtM X "list.extend" zeu:=by
 intro pins s σ H x vs v us Q I rx rv h;obtain ⟨l,b,xs,zs,rfl,rfl,hH,hB,hz,q⟩:=h;cases rx;obtain ⟨u,rfl,ru⟩:=rv.one;cases ru;obtain ⟨z,its,n,r,hl,e⟩:=I.lstM hH;obtain ⟨z2,its2,n2,r2,hl2,e2⟩:=I.lstM hB;have hsz:its.toArray.size+its2.toArray.size<=sizeLine:=by rw [aW,aW];omega
 have hlong:¬ (!its.toArray.isEmpty && Builtin.List.listTooLong (its.toArray.size+its2.toArray.size))=true:=by
  rw [tH hsz,Bool.and_false];exact bi
 refine call_meets F.slot_list_extend ⟨_,e,rfl⟩ F.entry_list_extend (F.args_list_extend_2 _ _)
  (AutoSeq1.list_extend_list_list_0 l its.toArray n b its2.toArray n2 hlong (by rw [aW];omega) (by omega)) ⟨e,e2,?_⟩
 refine ⟨.non,_,I.lset (its':=its++its2) hH e (by simp) (r.append r2) ?_,rfl,q⟩;rw [bc];omega
noncomputable def uh:R2:=λ x y H Q=>∃ l b xs zs,x = .ref l/\y = .ref b/\H l=some (.lst xs)/\H b=some (.lst zs)/\xs.length+zs.length<=sizeLine/\∀ p,H p=none->Q (.ref p) (upd H p (.lst (xs++zs)))
theorem ir:OpR X (binaryOp .Add) uh:=by
 intro pins s σ H x y v u Q I rx ry h;obtain ⟨l,b,xs,zs,rfl,rfl,hH,hB,hz,q⟩:=h;cases rx;cases ry;obtain ⟨z,its,n,r,hl,e⟩:=I.lstM hH;obtain ⟨z2,its2,n2,r2,hl2,e2⟩:=I.lstM hB;refine PySem.P.add_list e e2 ?_ (by rw [aW,aW];omega);have ea:its.toArray++its2.toArray=(its++its2).toArray:=by simp
 rw [ea];exact ⟨.ref _,_,I.lnew (t':=s.toks) (r.append r2) (by rw [bc];omega),rfl,q _ I.fresh⟩
noncomputable def up:R2:=λ x y H Q=>∃ l k xs,x = .ref l/\y = .int k/\H l=some (.lst xs)/\-(2 ^ 63)<=k/\k < 2 ^ 63/\xs.length * k.toNat<=sizeLine/\
 ∀ p,H p=none->Q (.ref p) (upd H p (.lst (List.replicate k.toNat xs).flatten))
theorem sL(xs:List α)(k:Nat):(List.replicate k xs).flatten.length=k * xs.length:=by
 induction k with
 | zero=>simp
 | succ k ih=>rw [List.replicate_succ,List.flatten_cons,bc,ih,Nat.succ_mul,Nat.add_comm]
theorem mS:OpR X (binaryOp .Mult) up:=by
 intro pins s σ H x y v u Q I rx ry h;obtain ⟨l,k,xs,rfl,rfl,hH,h1,h2,hz,q⟩:=h;cases rx;obtain ⟨t,rfl⟩:=ry;obtain ⟨z,its,n,r,hl,e⟩:=I.lstM hH;have hlen:its.toArray.size * k.toNat<=sizeLine:=by rw [aW,← hl];exact hz
 have hcap:¬ its.toArray.size * k.toNat > (2 ^ 63 - 1) / 8:=by
  have:(sizeLine:Nat)<=(2 ^ 63 - 1) / 8:=by decide
  omega
 have hfit:¬ (!Builtin.List.listFitsIndex k)=true:=by
  rw [fitsIndex_both h1 h2];exact bi
 have hlong:¬ Builtin.List.listTooLong (its.toArray.size * k.toNat)=true:=by
  rw [tH hlen];exact bi
 have hnew:List.foldl (λ x1 x2=>x1++x2) #[] (List.replicate (if its.toArray.isEmpty=true then 0 else k.toNat) its.toArray)=(List.replicate k.toNat its).flatten.toArray:=by
  have f0:∀ m:Nat,List.foldl (λ x1 x2=>x1++x2) #[] (List.replicate m its.toArray)=(List.replicate m its).flatten.toArray:=λ m=>by
   have:=sd its m [];rw [List.nil_append] at this;exact this
  rw [f0];cases its with
  | nil=>simp
  | cons a r'=>rw [if_neg (by simp)]
 refine wpAny_binaryOp_repeat_ref (T := "list") (U := "int") (by decide) ⟨_,e,rfl⟩ (λ s'=>typeIs_int s' k t) noFill_list_mul F.fills_int_mul F.slot_int_rmul repeat_list F.slot_int_index.lookup
  (call_meets F.slot_int_rmul (typeIs_int s k t) F.entry_int_rmul (F.args_int_rmul_2 _ _) (int___rmul___int_list k t l its.toArray n)
   ⟨e,rfl,⟨_,e,rfl⟩,call_meets F.slot_list_mul ⟨_,e,rfl⟩ F.entry_list_mul (F.args_list_mul_2 _ _) (AutoListH.list___mul___list_int_3 l its.toArray n k t hfit hcap hlong) ⟨e,?_⟩⟩)
 rw [hnew];exact ⟨.ref _,_,I.lnew (t':=s.toks) (r.rep k.toNat) (by rw [sL,Nat.mul_comm];exact hz),rfl,q _ I.fresh⟩
section
variable [DecidableEq κ]
noncomputable def bd(kvs:List (κ × V))(k:κ):Option V:=(kvs.find? λ kv=>decide (kv.1=k)).map (·.2)
noncomputable def bj(kvs:List (κ × V))(k:κ)(v:V):List (κ × V):=
 if (kvs.any λ kv=>decide (kv.1=k))=true then kvs.map (λ kv=>if kv.1=k then (kv.1,v) else kv) else kvs++[(k,v)]
noncomputable def rN(kvs:List (κ × V))(k:κ):List (κ × V):=kvs.filter λ kv=>decide (kv.1≠k)
theorem ei{p:κ × V}{r:List (κ × V)}{k:κ}(e:p.1=k):bd (p::r) k=some p.2:=by simp [bd,List.find?_cons,e]
theorem dN{p:κ × V}{r:List (κ × V)}{k:κ}(e:¬ p.1=k):bd (p::r) k=bd r k:=by simp [bd,List.find?_cons,e]
theorem iF(k:κ):∀ kvs:List (κ × V),(kvs.any λ kv=>decide (kv.1=k))=(bd kvs k).isSome
 | []=>rfl
 | p::r=>by
  rw [List.any_cons];by_cases e:p.1=k
  ·simp only [ei e,aO e,Bool.true_or,Option.isSome_some]
  ·rw [dN e,aM e,Bool.false_or];exact iF k r
theorem vZ(k j:κ)(y:V):∀ kvs:List (κ × V),bd (kvs.map λ kv=>if kv.1=k then (kv.1,y) else kv) j=(bd kvs j).map λ x=>if j=k then y else x
 | []=>rfl
 | p::r=>by
  have ih:=vZ k j y r;rw [List.map_cons];by_cases h:p.1=k
  ·rw [if_pos h];by_cases e:p.1=j
   ·rw [ei (p:=(p.1,y)) e,ei e,Option.map_some,if_pos (e.symm.trans h)]
   ·rw [dN (p:=(p.1,y)) e,dN e,ih]
  ·rw [if_neg h];by_cases e:p.1=j
   ·rw [ei (p:=p) e,ei e,Option.map_some,if_neg (λ z=>h (e.trans z))]
   ·rw [dN (p:=p) e,dN e,ih]
theorem v0(k j:κ)(y:V):∀ kvs:List (κ × V),bd kvs k=none->bd (kvs++[(k,y)]) j=if j=k then some y else bd kvs j
 | [],_=>by
  by_cases e:k=j
  ·rw [if_pos e.symm];exact ei (p:=(k,y)) e
  ·rw [if_neg (λ z=>e z.symm)];exact dN (p:=(k,y)) e
 | p::r,hn=>by
  rw [List.cons_append];have hk:¬ p.1=k:=λ z=>by rw [ei z] at hn;cases hn
  rw [dN hk] at hn;have ih:=v0 k j y r hn;by_cases e:p.1=j
  ·rw [ei e,ei e,if_neg (λ z=>hk (e.trans z))]
  ·rw [dN e,dN e,ih]
theorem zgN(kvs:List (κ × V))(k j:κ)(y:V):bd (bj kvs k y) j=if j=k then some y else bd kvs j:=by
 unfold bj;by_cases a:(kvs.any λ kv=>decide (kv.1=k))=true
 ·rw [if_pos a,vZ];rw [iF] at a;by_cases e:j=k
  ·obtain ⟨x,hx⟩:=Option.isSome_iff_exists.mp a;rw [if_pos e,e,hx,Option.map_some,if_pos rfl]
  ·rw [if_neg e];cases bd kvs j with
   | none=>rfl
   | some x=>rw [Option.map_some,if_neg e]
 ·rw [if_neg a];refine v0 k j y kvs ?_;rw [iF] at a;cases q:bd kvs k with
  | none=>rfl
  | some x=>rw [q] at a;exact (a rfl).elim
theorem iY(kvs:List (κ × V))(k:κ)(v:V):(bj kvs k v).length<=kvs.length+1:=by
 unfold bj
 split
 ·rw [ag];omega
 ·rw [bc,List.length_cons,List.length_nil];omega
theorem zep{kvs:List (κ × V)}{k:κ}(v:V)(h:bd kvs k=none):bj kvs k v=kvs++[(k,v)]:=by
 unfold bj;rw [iF,h];exact if_neg (by decide)
theorem RelO.isSome_eq{o:Option V}{u:Option Value}(r:RelO o u):o.isSome=u.isSome:=by
 cases o with
 | none=>cases u with
  | none=>rfl
  | some _=>exact (show False from r).elim
 | some _=>cases u with
  | none=>exact (show False from r).elim
  | some _=>rfl
theorem RelO.getD{o:Option V}{u:Option Value}{d:V}{d':Value}(r:RelO o u)(rd:RelV d d'):RelV (o.getD d) (u.getD d'):=by
 cases o with
 | none=>cases u with
  | none=>exact rd
  | some _=>exact (show False from r).elim
 | some _=>cases u with
  | none=>exact (show False from r).elim
  | some _=>exact r
theorem KV.val{kvs:List (κ × V)}{vs:List (κ × Value)}(r:KV kvs vs)(k:κ):RelO (bd kvs k) (valueAt vs k):=by
 unfold KV at r;induction r with
 | nil=>exact True.intro
 | @cons p q ps qs h t ih=>
  obtain ⟨h1,h2⟩:=h;by_cases e:p.1=k
  ·have e':q.1=k:=h1.symm.trans e;have b:valueAt (q::qs) k=some q.2:=by simp [valueAt,List.find?_cons,e']
   rw [ei e,b];exact h2
  ·have e':¬ q.1=k:=λ z=>e (h1.trans z);have b:valueAt (q::qs) k=valueAt qs k:=by simp [valueAt,List.find?_cons,e']
   rw [dN e,b];exact ih
theorem KV.any{kvs:List (κ × V)}{vs:List (κ × Value)}(r:KV kvs vs)(k:κ):(kvs.any λ kv=>decide (kv.1=k))=vs.any λ kv=>decide (kv.1=k):=by
 unfold KV at r;induction r with
 | nil=>rfl
 | cons h t ih=>rw [List.any_cons,List.any_cons,ih,h.1]
theorem KV.repl{kvs:List (κ × V)}{vs:List (κ × Value)}(r:KV kvs vs)(k:κ){y:V}(ry:RelV y u):
  KV (kvs.map λ kv=>if kv.1=k then (kv.1,y) else kv) (vs.map λ kv=>if kv.1=k then (kv.1,u) else kv):=by
 unfold KV at r ⊢;induction r with
 | nil=>exact .nil
 | @cons p q ps qs h t ih=>
  rw [List.map_cons,List.map_cons];refine .cons ?_ ih;obtain ⟨h1,h2⟩:=h;by_cases e:p.1=k
  ·rw [if_pos e,if_pos (h1.symm.trans e)];exact ⟨h1,ry⟩
  ·rw [if_neg e,if_neg (λ z=>e (h1.trans z))];exact ⟨h1,h2⟩
theorem KV.put{kvs:List (κ × V)}{vs:List (κ × Value)}(r:KV kvs vs)(k:κ){y:V}(ry:RelV y u):KV (bj kvs k y) (stored vs k u):=by
 unfold bj stored;rw [r.any k];by_cases e:(vs.any λ kv=>decide (kv.1=k))=true
 ·rw [if_pos e,if_pos e];exact r.repl k ry
 ·rw [if_neg e,if_neg e];exact Paired.snoc r ⟨rfl,ry⟩
theorem KV.drop{kvs:List (κ × V)}{vs:List (κ × Value)}(r:KV kvs vs)(k:κ):KV (rN kvs k) (without vs k):=by
 unfold KV at r ⊢;unfold rN without;induction r with
 | nil=>exact .nil
 | @cons p q ps qs h t ih=>
  obtain ⟨h1,h2⟩:=h;rw [List.filter_cons,List.filter_cons];by_cases e:p.1=k
  ·have a:¬ decide (p.1≠k)=true:=by simp [e]
   have b:¬ decide (q.1≠k)=true:=by simp [h1.symm.trans e]
   rw [if_neg a,if_neg b];exact ih
  ·have e':¬ q.1=k:=λ z=>e (h1.trans z);have a:decide (p.1≠k)=true:=by simp [e]
   have b:decide (q.1≠k)=true:=by simp [e']
   rw [if_pos a,if_pos b];exact .cons ⟨h1,h2⟩ ih
theorem KV.keys{kvs:List (κ × V)}{vs:List (κ × Value)}(r:KV kvs vs):kvs.map (·.1)=vs.map (·.1):=by
 unfold KV at r;induction r with
 | nil=>rfl
 | cons h t ih=>rw [List.map_cons,List.map_cons,ih,h.1]
theorem KV.length{kvs:List (κ × V)}{vs:List (κ × Value)}(r:KV kvs vs):kvs.length=vs.length:=Paired.length r
end
theorem fX{k:Key}(r:RelV (kV k) u):(cf P w).is k u=true:=by
 cases k with
 | inl i=>cases i with
  | none=>cases (show u=Value.none from r);rfl
  | some i=>obtain ⟨t,e⟩:=(show ∃ t,u=Value.int i t from r);subst e;exact zbg P w i t
 | inr x=>obtain ⟨t,e⟩:=(show ∃ t,u=Value.str x t from r);subst e;exact zbh P w x t
theorem sB{P:Program}{w:World}:∀ {ks:List Key} {us:List Value},Vals (ks.map kV) us->ItemsAre (cf P w) ks us
 | [],_,r=>by rw [List.map_nil] at r;cases r;exact .nil
 | k::ks,_,r=>by
  rw [List.map_cons] at r;cases r with
  | cons h t=>exact .cons (fX h) (sB t)
noncomputable abbrev KT(H:Hp):List (List Key × V)->List (List Key × Addr × Value)->Prop:=Paired λ p q=>p.1=q.1/\H q.2.1=some (.tup (p.1.map kV))/\RelV p.2 q.2.2
theorem KT.val{xs:List (List Key × Addr × Value)}(r:KT H kvs xs)(k:List Key):RelO (bd kvs k) ((atKey xs k).map (·.2)):=by
 induction r with
 | nil=>exact True.intro
 | @cons p q ps qs h t ih=>
  obtain ⟨h1,_,h2⟩:=h;by_cases e:p.1=k
  ·have e':q.1=k:=h1.symm.trans e;have b:atKey (q::qs) k=some q.2:=by simp [atKey,List.find?_cons,e']
   rw [ei e,b];exact h2
  ·have e':¬ q.1=k:=λ z=>e (h1.trans z);have b:atKey (q::qs) k=atKey qs k:=by simp [atKey,List.find?_cons,e']
   rw [dN e,b];exact ih
theorem KT.repl{xs:List (List Key × Addr × Value)}(r:KT H kvs xs)(k:List Key){y:V}(ry:RelV y u):
  KT H (kvs.map λ kv=>if kv.1=k then (kv.1,y) else kv) (xs.map (putAt k u)):=by
 induction r with
 | nil=>exact .nil
 | @cons p q ps qs h t ih=>
  rw [List.map_cons,List.map_cons];refine .cons ?_ ih;obtain ⟨h1,h2,h3⟩:=h;unfold putAt;by_cases e:p.1=k
  ·rw [if_pos e,if_pos (h1.symm.trans e)];exact ⟨h1,h2,ry⟩
  ·rw [if_neg e,if_neg (λ z=>e (h1.trans z))];exact ⟨h1,h2,h3⟩
theorem KT.put{xs:List (List Key × Addr × Value)}(r:KT H kvs xs)(k:List Key){y:V}(hb:H b=some (.tup (k.map kV)))(ry:RelV y u):
  KT H (bj kvs k y) (storedH xs k b u):=by
 have e:(kvs.any λ kv=>decide (kv.1=k))=(atKey xs k).isSome:=by
  rw [iF,(r.val k).isSome_eq,Option.isSome_map]
 unfold bj storedH;rw [e];by_cases q:(atKey xs k).isSome=true
 ·rw [if_pos q,if_pos q];exact r.repl k ry
 ·rw [if_neg q,if_neg q];exact Paired.snoc r ⟨rfl,hb,ry⟩
theorem KT.keeps{xs:List (List Key × Addr × Value)}(r:KT H kvs xs)(ht:∀ b ys,H b=some (.tup ys)->H' b=some (.tup ys)):KT H' kvs xs:=
 Paired.mapP r λ _ _ z=>⟨z.1,ht _ _ z.2.1,z.2.2⟩
theorem uB{u:HO}(ok:HOk P w H h)(e:Rd H a u):ObjOk P w H h a u:=e.ok ok
theorem gZ{kvs:List (Key × V)}(ok:HOk P w H h)(e:Rd H a (.dK kvs)):kvs.length<=sizeLine/\(a == sysModules)=false/\∃ vs,KV kvs vs/\h.DictOf (cf P w) a vs:=
 show ObjOk P w H h a (.dK kvs) from uB ok e
theorem jU{kvs:List (Key × V)}(ok:HOk P w H h)(e:H a=some (.dK kvs)):kvs.length<=sizeLine/\(a == sysModules)=false/\∃ vs,KV kvs vs/\h.DictOf (cf P w) a vs:=gZ ok (.inl e)
theorem j6{ks:List Key}(ok:HOk P w H h)(e:H a=some (.tup (ks.map kV))):(tupleKind (cf P w)).is h ks a:=by
 obtain ⟨_,its,r,o,h1,h2,n,h3⟩:=(show ObjOk P w H h a (.tup (ks.map kV)) from ok a _ e)
 exact ⟨o,its.toArray,n,h1,h2,h3,by simpa using sB r⟩
theorem iQ(ok:HOk P w H h)(e:Rd H a (.dT kvs)):kvs.length<=sizeLine/\(a == sysModules)=false/\
  ∃ xs,KT H kvs xs/\h.DictOfH (tupleKind (cf P w)) a xs:=by
 obtain ⟨z,y,xs,r,o,es,ep,h1,h2,h3,h4,h5⟩:=(show ObjOk P w H h a (.dT kvs) from uB ok e)
 refine ⟨z,y,xs,r,o,es,ep,h1,h2,h3,h4,λ x hx=>?_,h5⟩;have all:∀ {l:List (List Key × V)} {m:List (List Key × Addr × Value)},KT H l m->∀ x∈m,(tupleKind (cf P w)).is h x.1 x.2.1:=by
  intro l m q;induction q with
  | nil=>intro x hx;exact nomatch hx
  | @cons p q ps qs hq t ih=>
   intro x hx;rcases al_mc.mp hx with e | hx
   ·subst e;exact j6 ok (by rw [← hq.1];exact hq.2.1)
   ·exact ih x hx
 exact all r x hx
theorem yH(ok:HOk P w H h)(e:H a=some (.dT kvs)):kvs.length<=sizeLine/\(a == sysModules)=false/\
  ∃ xs,KT H kvs xs/\h.DictOfH (tupleKind (cf P w)) a xs:=iQ ok (.inl e)
noncomputable def DGet(H:Hp)(a:Addr)(y:V)(r:Option V):Prop:=
 (∃ kvs k,Rd H a (.dK kvs)/\y=kV k/\r=bd kvs k)\/∃ kvs k b,Rd H a (.dT kvs)/\y = .ref b/\H b=some (.tup (k.map kV))/\r=bd kvs k
noncomputable def DPut(H:Hp)(a:Addr)(y v:V)(H':Hp):Prop:=
 (∃ kvs k,H a=some (.dK kvs)/\y=kV k/\kvs.length < sizeLine/\H'=upd H a (.dK (bj kvs k v)))\/
 ∃ kvs k b,H a=some (.dT kvs)/\y = .ref b/\H b=some (.tup (k.map kV))/\kvs.length < sizeLine/\H'=upd H a (.dT (bj kvs k v))
theorem DGet.k{H:Hp}{a:Addr}{kvs:List (Key × V)}{k:Key}(e:H a=some (.dK kvs)):DGet H a (kV k) (bd kvs k):=.inl ⟨kvs,k,.inl e,rfl,rfl⟩
theorem DGet.t{k:List Key}(e:H a=some (.dT kvs))(eb:H b=some (.tup (k.map kV))):DGet H a (.ref b) (bd kvs k):=.inr ⟨kvs,k,b,.inl e,rfl,eb,rfl⟩
theorem DPut.k{H:Hp}{a:Addr}{kvs:List (Key × V)}{k:Key}{v:V}(e:H a=some (.dK kvs))(hl:kvs.length < sizeLine):DPut H a (kV k) v (upd H a (.dK (bj kvs k v))):=.inl ⟨kvs,k,e,rfl,hl,rfl⟩
theorem DPut.t{k:List Key}{v:V}(e:H a=some (.dT kvs))(eb:H b=some (.tup (k.map kV)))(hl:kvs.length < sizeLine):
  DPut H a (.ref b) v (upd H a (.dT (bj kvs k v))):=.inr ⟨kvs,k,b,e,rfl,eb,hl,rfl⟩
section
variable {y v:V} {r:Value} {o:Option V}
theorem Inv.big(I:Inv X pins σ H s):sysModules < s.heap.objs.size:=by
 have h:mainGlobals < s.heap.objs.size:=(I.mod.glob.keeps I.bk).lt;exact Nat.lt_trans (by decide) h
theorem yz(hu:A.units+1 < cLine)(I:Inv X pins σ H s)(g:DGet H a y (some v))(ry:RelV y u)(h:∀ w' s',Inv X pins σ H s'->RelV v w'->Q w' s'):
  wpAny (model X.prog X.w) A (getItem (.ref a) u) Q E s:=by
 rcases g with ⟨kvs,k,e,ey,l⟩ | ⟨kvs,k,b,e,ey,eb,l⟩
 ·subst ey;obtain ⟨z,hd,vs,rel,dd⟩:=gZ I.hok e;obtain ⟨w',hw,rw'⟩:=RelO.some_of (v:=v) (o:=valueAt vs k) (by rw [l];exact rel.val k);exact wpAny_getItem_of (fX ry) dd.mapOf hw (h w' _ (I.tok _) rw')
 ·subst ey;cases (show u=Value.ref b from ry);obtain ⟨z,hd,xs,rel,dd⟩:=iQ I.hok e;obtain ⟨w',hw,rw'⟩:=RelO.some_of (v:=v) (o:=(atKey xs k).map (·.2)) (by rw [l];exact rel.val k);obtain ⟨p,hp,hp2⟩:=Option.map_eq_some_iff.mp hw;refine wpAny_getItem_heap (tupleKind_room_in1 hu) (j6 I.hok eb) dd hp ?_;rw [hp2];exact h w' _ (I.tok _) rw'
theorem jT{ob:HO}(I:Inv X pins σ H s)(mu:Mut (H a))(hs:Heap.SameBut a s.heap h')(he:∃ q,h'.get? a=some q)(new:ObjOk X.prog X.w (upd H a ob) h' a ob):
  Inv X pins σ (upd H a ob) { s with heap:=h',toks:=t' }:=
 I.write (x:=a) (e:=a) mu (.inl rfl) (λ b q hb z=>(hs.2 b hb).trans z) he new
theorem iP{kvs:List (Key × V)}{vs:List (Key × Value)}(z:kvs.length<=sizeLine)(hd:(a == sysModules)=false)(rel:KV kvs vs)(dd:h'.DictOf (cf P w) a vs):
  ObjOk P w H' h' a (.dK kvs):=⟨z,hd,vs,rel,dd⟩
theorem yB{Q:Unit->Shared->Prop}(hu:A.units+1 < cLine)(I:Inv X pins σ H s)(g:DPut H a y v H')(ry:RelV y u)(rv:RelV v r)(h:∀ s',Inv X pins σ H' s'->Q () s'):
  wpAny (model X.prog X.w) A (setItem (.ref a) u r) Q E s:=by
 rcases g with ⟨kvs,k,e,ey,l,eH⟩ | ⟨kvs,k,b,e,ey,eb,l,eH⟩
 ·subst ey eH;obtain ⟨z,hd,vs,rel,dd⟩:=jU I.hok e;have hz:vs.length<=sizeLine:=by rw [← rel.length];exact z
  have hl:(bj kvs k v).length<=sizeLine:=by have:=iY kvs k v;omega
  refine wpAny_setItem_pairs (hsz:=hz) (fX ry) dd λ h' dd' hs=>h _ ?_;have he:∃ q,h'.get? a=some q:=let ⟨q,_,_,hq,_⟩:=dd';⟨q,hq⟩;exact jT I (by rw [e];exact True.intro) hs he (iP hl hd (rel.put k rv) dd')
 ·subst ey eH;cases (show u=Value.ref b from ry);obtain ⟨z,hd,xs,rel,dd⟩:=yH I.hok e;have hz:xs.length<=sizeLine:=by rw [← Paired.length rel];exact z
  have hl:(bj kvs k v).length<=sizeLine:=by have:=iY kvs k v;omega
  refine wpAny_setItem_heap (hsz:=hz) (tupleKind_room_in1 hu) (j6 I.hok eb) dd λ h' dd' hs=>h _ ?_;obtain ⟨q,es,ep,hq,h2,h3,h4,_,h5⟩:=dd';refine jT I (by rw [e];exact True.intro) hs ⟨q,hq⟩ ⟨hl,hd,_,(rel.put k eb rv).keeps λ c ys ec=>?_,q,es,ep,hq,h2,h3,h4,h5⟩;rw [ai (dD ec e (λ z=>nomatch z))];exact ec
end
section
variable {kvs:List (Key × V)} {k:Key}
theorem yA(I:Inv X pins σ H s)(e:Rd H a (.dK kvs))(h:∀ t s',Inv X pins σ H s'->Q (.int kvs.length t) s'):wpAny (model X.prog X.w) A (call (.builtin "len") [.ref a]) Q E s:=by
 obtain ⟨z,hd,vs,rel,dd⟩:=gZ I.hok e;refine call_len_dict hd dd (by rw [← rel.length];rw [sizeLine_eq] at z;omega) ?_;rw [← rel.length];exact h _ _ (I.tok _)
end
noncomputable def jF(i:Expr):Prop:=∀ ov iv,subscripted i false ov iv=operate [ov,iv] (getItem ov iv)
theorem pM{slice:Expr}{T id:String}(hl:typeLookup (.type T) "__getitem__" = pure (some (.builtin id)))(hs:jF slice)(h:wpAny (model prog w) A (eval value env) (λ o s₁=>wpAny (model prog w) A (eval slice env) (λ i s₂=>s₂.TypeIs o T/\wpAny (model prog w) A (getItem o i) Q E s₂) E s₁) E s):
  wpAny (model prog w) A (eval (.Subscript value slice pos) env) Q E s:=by
 refine Subscript_ (wpAny_mono h (λ o s₁ h₁=>wpAny_mono h₁ (λ i s₂ h₂=>?_) λ _ _ x=>x) λ _ _ x=>x);obtain ⟨hT,h₂⟩:=h₂;unfold subscriptTail;refine ah ?_;rw [getitemInPython_of_ne hT.not_modules];refine ah (wpAny_specialOf hT hl ?_);have fin:wpAny (model prog w) A (subscripted slice false o i) (λ r s₃=>wpAny (model prog w) A (letTemporaryGo value o r >>= λ _=>pure r) Q E s₃) E s₂:=by
  rw [hs o i];exact wpAny_operating (wpAny_mono h₂ (λ r s₃ h₃=>ah (wpAny_letTemporaryGo (aC h₃))) λ _ _ x=>x)
 first
  | exact aC (ah fin)
  | exact ah (aC (ah fin))
  | exact ah fin
theorem yD{y:V}{o:Option V}(I:Inv X pins σ H s)(g:DGet H a y o):s.TypeIs (.ref a) "dict" := by
 rcases g with ⟨kvs,k,e,_,_⟩ | ⟨kvs,k,b,e,_,_,_⟩
 ·obtain ⟨_,_,vs,_,dd⟩:=gZ I.hok e;exact dd.typeIs
 ·obtain ⟨_,_,xs,_,dd⟩:=iQ I.hok e;exact dd.typeIs
noncomputable def zf4(td ty:TE):TE:=λ σ H Q=>td σ H λ x H1=>ty σ H1 λ y H2=>∃ a v,x = .ref a/\DGet H2 a y (some v)/\Q v H2
noncomputable def uH(td ty tv:TE):TS:=λ D σ H=>tv σ H λ v H1=>td σ H1 λ x H2=>ty σ H2 λ y H3=>∃ a H4,x = .ref a/\DPut H3 a y v H4/\D.nx σ H4
section
variable {o i:Expr} {ty:TE}
theorem tR(hu:X.A.units+1 < cLine)(ho:PE X o td)(hi:PE X i ty)(hs:jF i):PE X (.Subscript o i pos) (zf4 td ty):=by
 intro pins s σ H Q I h;refine pM F.slot_dict_getitem.lookup hs (thn (ho pins s σ H _ I h) λ u s1 ⟨x,H1,I1,rx,q1⟩=>thn (hi pins s1 σ H1 _ I1 q1) λ iv s2 ⟨y,H2,I2,ry,a,v,ex,g,q2⟩=>?_);subst ex;obtain rfl:u=Value.ref a:=rx;exact ⟨yD I2 g,yz hu I2 g ry λ w' s3 I3 rw'=>⟨v,H2,I3,rw',q2⟩⟩
theorem zee(hu:X.A.units+1 < cLine)(ho:PE X o td)(hi:PE X i ty)(hv:PE X value tv)(hs:swapsWith value (some (.Subscript o i pos')) pos.line X.env=pure false):
  PS X (.Assign [.Subscript o i pos'] value pos) (uH td ty tv):=by
 intro pins s σ H D I h;refine wpAny_Assign_Subscript (thn (hv pins s σ H _ I h) λ r s1 ⟨v,H1,I1,rv,q1⟩=>thn (ho pins s1 σ H1 _ I1 q1) λ u s2 ⟨x,H2,I2,rx,q2⟩=>thn (hi pins s2 σ H2 _ I2 q2) λ iv s3 ⟨y,H3,I3,ry,a,H4,ex,g,q3⟩=>?_) hs;subst ex;obtain rfl:u=Value.ref a:=rx;exact yB hu I3 g ry rv λ s4 I4=>⟨σ,H4,I4,q3⟩
end
theorem rM(h:Heap)(hb:sysModules < h.objs.size):ObjOk P w H (h.push { cls:=.type "dict", data:=.dict #[] }) h.objs.size (.dK []):=
 ⟨Nat.zero_le _,beq_eq_false_iff_ne.mpr (Ne.symm (Nat.ne_of_lt hb)),[],.nil,Heap.DictOf.new h⟩
noncomputable def zf6:TE:=λ _ H Q=>∀ p,H p=none->Q (.ref p) (upd H p (.dK []))
theorem tS:PE X (.Dict [] [] pos) zf6:=λ pins s σ H Q I h=>
 wpAny_Dict_empty ⟨.ref s.heap.objs.size,_,I.laid (a:=s.heap.objs.size) (o:=.dK []) (t':=s.toks) (λ _ _ q=>aU _ q) (Nat.le_refl _) (rM s.heap I.big),rfl,h _ (I.hok.fresh (Nat.le_refl _))⟩
noncomputable def kH:List (TE × TE)->St->Hp->(List (V × V)->Hp->Prop)->Prop
 | [],_,H,Q=>Q [] H
 | (tk,tv)::r,σ,H,Q=>tk σ H λ x H1=>tv σ H1 λ y H2=>kH r σ H2 λ ps H3=>Q ((x,y)::ps) H3
noncomputable abbrev VV:List (V × V)->List (Value × Value)->Prop:=Paired λ p q=>RelV p.1 q.1/\RelV p.2 q.2
noncomputable def PPs(X:Cx)(pos:Pos)(keys:List (Option Expr))(values:List Expr)(trs:List (TE × TE)):Prop:=
 ∀ (pins:List (Addr × Obj)) (s:Shared) (σ:St) (H:Hp) (Q:List (V × V)->Hp->Prop),Inv X pins σ H s->kH trs σ H Q->
  wpAny (model X.prog X.w) X.A (evalPairs (pairTrees keys values X.env pos)) (λ vs s'=>∃ ps H',Inv X pins σ H' s'/\VV ps vs/\Q ps H') X.xe s
theorem zeb   : PPs X pos [] [] []:=λ pins s σ H Q I h=>pairTrees_nil_walk ⟨[],H,I,.nil,h⟩
theorem zea{k v:Expr}{vs:List Expr}{tk:TE}(hk:PE X k tk)(hv:PE X v tv)(hr:PPs X pos ks vs trs):
  PPs X pos (some k::ks) (v::vs) ((tk,tv)::trs):=λ pins s σ H Q I h=>
 pairTrees_cons_walk (thn (hk pins s σ H _ I h) λ u s1 ⟨x,H1,I1,rx,q1⟩=>thn (hv pins s1 σ H1 _ I1 q1) λ w2 s2 ⟨y,H2,I2,ry,q2⟩=>
  thn (hr pins s2 σ H2 _ I2 q2) λ ws s3 ⟨ps,H3,I3,rel,q3⟩=>⟨(x,y)::ps,H3,I3,.cons ⟨rx,ry⟩ rel,q3⟩)
noncomputable def eS(kvs more:List (Key × V)):List (Key × V):=more.foldl (λ acc kv=>bj acc kv.1 kv.2) kvs
theorem KV.merge:∀ {more:List (Key × V)} {rs:List (Key × Value)} {kvs:List (Key × V)} {vs:List (Key × Value)},KV more rs->KV kvs vs->KV (eS kvs more) (merged vs rs):=by
 intro more rs kvs vs r;unfold KV at r;induction r generalizing kvs vs with
 | nil=>intro q;exact q
 | @cons p q ps qs h t ih=>
  intro r0;have e:KV (bj kvs p.1 p.2) (stored vs q.1 q.2):=by
   have:=r0.put p.1 h.2;rw [← h.1];exact this
  exact ih e
theorem sM:∀ (more kvs:List (Key × V)),(eS kvs more).length<=kvs.length+more.length
 | [],kvs=>by show kvs.length<=kvs.length+0;omega
 | p::r,kvs=>by
  have h1:=sM r (bj kvs p.1 p.2);have h2:=iY kvs p.1 p.2;show (eS (bj kvs p.1 p.2) r).length<=_;rw [List.length_cons];omega
theorem rf{P:Program}{w:World}:∀ {kvs:List (Key × V)} {ws:List (Value × Value)},VV (kvs.map λ kv=>(kV kv.1,kv.2)) ws->∃ rs,Carries (cf P w) ws rs/\KV kvs rs
 | [],_,r=>by rw [List.map_nil] at r;cases r;exact ⟨[],True.intro,.nil⟩
 | p::kvs,_,r=>by
  rw [List.map_cons] at r;cases r with
  | @cons a b as bs h t=>
   obtain ⟨rs,c,q⟩:=rf (P:=P) (w:=w) t;obtain ⟨b1,b2⟩:=b;exact ⟨(p.1,b2)::rs,⟨fX h.1,rfl,c⟩,.cons ⟨rfl,h.2⟩ q⟩
noncomputable def kG(trs:List (TE × TE)):TE:=λ σ H Q=>∀ p,H p=none->kH trs σ (upd H p (.dK [])) λ ps H2=>H2 p=some (.dK [])/\∃ kvs:List (Key × V),ps=kvs.map (λ kv=>(kV kv.1,kv.2))/\kvs.length<=15/\Q (.ref p) (upd H2 p (.dK (eS [] kvs)))
theorem zdV{keys:List (Option Expr)}(h:PPs X pos keys values trs)(hall:keys.all (·.isSome)=true)(hl:keys.length=values.length)(h0:keys≠[])(h15:keys.length<=15):PE X (.Dict keys values pos) (kG trs):=by
 intro pins s σ H Q I q;have hn:=I.hok.fresh (Nat.le_refl s.heap.objs.size);have I1:=I.laid (a:=s.heap.objs.size) (o:=.dK []) (h':=s.heap.push { cls:=.type "dict", data:=.dict #[] }) (t':=s.toks) (λ _ _ q=>aU _ q) (Nat.le_refl _) (rM s.heap I.big);refine wpAny_Dict_walk (knd:=cf X.prog X.w) hall hl h0 h15 (thn (h pins _ σ _ _ I1 (q _ hn)) λ ws s2 ⟨ps,H2,I2,rel,e,kvs,ep,lk,q2⟩=>?_);subst ep;obtain ⟨rs,c,rk⟩:=rf (P:=X.prog) (w:=X.w) rel;obtain ⟨z,hd,vs0,r0,dd⟩:=jU I2.hok e;cases r0;refine ⟨rs,c,dd,λ h' dd' hs=>⟨.ref s.heap.objs.size,_,?_,rfl,q2⟩⟩;have hz:(eS [] kvs).length<=sizeLine:=by
  have h1:=sM kvs [];rw [List.length_nil] at h1;rw [sizeLine_eq];omega
 have he:∃ q,h'.get? s.heap.objs.size=some q:=let ⟨q,_,_,hq,_⟩:=dd';⟨q,hq⟩;exact jT I2 (by rw [e];exact True.intro) hs he (iP hz hd (rk.merge .nil) dd')
structure M2 (X:Cx) (o:Expr) (m:Str) (apos:Pos) (e f:Expr) (cpos:Pos):Prop where
 base:attributeBase o m X.env (eval o X.env)=eval o X.env
 few:((backTo cpos (starEach [e,f] X.env)).all (λ x=>!x.1) && (backToKw cpos (keywordEach [] X.env)).all (λ x=>x.1.isSome)
  && decide (([e,f]:List Expr).length+([]:List Keyword).length+(if ([]:List Keyword).isEmpty then 0 else 1) < 30))=true
 line:(apos.endLine == cpos.line)=true
 trees:backTo cpos (starEach [e,f] X.env)=[(false,eval e X.env),(false,eval f X.env)]
noncomputable def IsD(H:Hp)(a:Addr):Prop:=(∃ kvs,Rd H a (.dK kvs))\/∃ kvs,Rd H a (.dT kvs)
theorem zT(I:Inv X pins σ H s)(d:IsD H a):
  s.TypeIs (.ref a) "dict" /\ (∀ b,Value.ref a = .ref b->∃ ob,s.heap.get? b=some ob/\ob.dict=none)/\(a == sysModules)=false:=by
 rcases d with ⟨kvs,e⟩ | ⟨kvs,e⟩
 ·obtain ⟨_,hd,vs,_,dd⟩:=gZ I.hok e;refine ⟨dd.typeIs,λ b q=>?_,hd⟩;cases q;obtain ⟨ob,_,_,h1,h2,_⟩:=dd;exact ⟨ob,h1,h2.2.1⟩
 ·obtain ⟨_,hd,xs,_,dd⟩:=iQ I.hok e;refine ⟨dd.typeIs,λ b q=>?_,hd⟩;cases q;obtain ⟨ob,_,_,h1,h2,_⟩:=dd;exact ⟨ob,h1,h2.2.1⟩
section
variable {y d:V} {r:Value} {o:Option V}
theorem yx(hu:A.units+1 < cLine)(I:Inv X pins σ H s)(g:DGet H a y o)(ry:RelV y u)(rd:RelV d r)(h:∀ w' s',Inv X pins σ H s'->RelV (o.getD d) w'->Q w' s'):
  wpAny (model X.prog X.w) A (call (.builtin "dict.get") [.ref a,u,r]) Q E s:=by
 rcases g with ⟨kvs,k,e,ey,l⟩ | ⟨kvs,k,b,e,ey,eb,l⟩
 ·subst ey;obtain ⟨z,hd,vs,rel,dd⟩:=gZ I.hok e;refine call_meetsIn F.slot_dict_get dd.typeIs F.entry_dict_get (F.args_dict_get_3 _ _ _) (meets_dict_get_default (cf X.prog X.w) a (fX ry) hd r) ⟨_,dd.mapOf,h _ _ (I.tok _) ?_⟩;rw [l];exact (rel.val k).getD rd
 ·subst ey;cases (show u=Value.ref b from ry);obtain ⟨z,hd,xs,rel,dd⟩:=iQ I.hok e;refine call_meetsIn F.slot_dict_get dd.typeIs F.entry_dict_get (F.args_dict_get_3 _ _ _) (meetsH_dict_get_default (tupleKind (cf X.prog X.w)) a b hd r) ⟨tupleKind_room_in1 hu,k,xs,j6 I.hok eb,dd,h _ _ (I.tok _) ?_⟩;rw [l];exact (rel.val k).getD rd
end
noncomputable def zf5(td ty tx:TE):TE:=λ σ H Q=>td σ H λ x H1=>∃ a,x = .ref a/\IsD H1 a/\ty σ H1 λ y H2=>tx σ H2 λ z H3=>∃ o,DGet H3 a y o/\Q (o.getD z) H3
section
variable {o f:Expr} {ty tx:TE}
theorem zdT(hu:X.A.units+1 < cLine)(ho:PE X o td)(he:PE X e ty)(hf:PE X f tx)(m:M2 X o "get" apos e f cpos):PE X (.Call (.Attribute o "get" apos) [e,f] [] cpos) (zf5 td ty tx):=by
 intro pins s σ H Q I h;refine wpAny_Call_method m.base m.few m.line F.plainAttrs_dict F.slot_dict_get F.type_dict_get (thn (ho pins s σ H _ I h) λ u s1 ⟨x,H1,I1,rx,a,ex,d,q1⟩=>?_);subst ex;obtain rfl:u=Value.ref a:=rx;obtain ⟨t1,t2,_⟩:=zT I1 d;refine ⟨t1,t2,?_⟩;rw [m.trees];refine Calls.callWith_builtin rfl (Calls.evalArgs_plain (Calls.spliced_cons (thn (he pins s1 σ H1 _ I1 q1) λ iv s2 ⟨y,H2,I2,ry,q2⟩=>
  Calls.spliced_cons (thn (hf pins s2 σ H2 _ I2 q2) λ fv s3 ⟨z,H3,I3,rz,ov,g,q3⟩=>Calls.spliced_nil ?_))))
 exact yx hu I3 g ry rz λ w' s4 I4 rw'=>⟨_,H3,I4,rw',q3⟩
end
section
variable {kvs:List (Key × V)}
end
section
variable {y:V}
end
namespace Att
open PySem PySem.W PySem.Calls PyProof.Rows
theorem zQ{P:Params}: ∀ (ns:List Int) (vs:List Value),WellAll P h vs (ns.map WData.int)->IntsAre vs ns:=by
 intro ns;induction ns with
 | nil=>
  intro vs w;rw [List.map_nil] at w;cases w;exact .nil
 | cons n ns ih=>
  intro vs w;rw [List.map_cons] at w;cases w with
  | cons a b=>
   cases a;exact .cons _ _ (ih _ b)
theorem zfC{l:OpenLaw}(hn:l.most=some n){P:Params}{args:List WData}{vals:List Value}(hpre:l.row.toRowW.claim.pre args=true)(hwl:WellAll P h vals args):
  ∃ a vs ns,vals=[Value.ref a]/\args=[WData.list (ns.map WData.int)]/\h.get? a=some { cls:=.type "list", data:=.seq vs.toArray }/\IntsAre vs ns/\ns.length<=n:=by
 have hsh:WShape.hasAll [] args [.list .int]=true:=(pre_splitW hpre).1;have hc:l.pre.holds [] { args:=args }=true:=(pre_splitW hpre).2;obtain ⟨d,r,rfl,h1,h2⟩:=hasAllW_cons hsh;obtain rfl:=hasAllW_nil h2;obtain ⟨xs,rfl,h3⟩:=hasW_list h1;obtain ⟨ns,rfl⟩:=items_int h3;have hlen:ns.length<=n:=by
  unfold OpenLaw.pre at hc;have h4:(WTm.not (.lt (.lit (.int (n:Int))) (.len (.arg 0)))).holds [] { args:=[.list (ns.map .int)] }=true:=by
   have h4:=(holds_andW hc).1;rw [hn] at h4;exact h4
  have h5:=condW_of h4 (w_not (w_lt w_lit (w_len_list (w_arg rfl))));rw [ag] at h5;refine Nat.le_of_not_lt λ q=>?_;have q':(n:Int) < ((ns.length:Nat):Int):=by omega
  first
   | (rw [aO q'] at h5;exact absurd h5 (by decide))
   | (simp at h5;omega)
 cases hwl with
 | cons w1 w2=>
  cases w2;cases w1 with
  | list ho hall=>exact ⟨_,_,ns,rfl,rfl,ho,zQ ns _ hall,hlen⟩
theorem zd8(l:OpenLaw)(args:List WData):l.row.toRowW.claim.post args (.bool true) args=true:=
 postW_of (r:=l.row.toRowW) (X:=(true == true))
  (show WShape.has [] (.bool true) .bool=true by first | rfl | decide | simp [WShape.has,WShape.arms,WShape.armsAll])
  (show (WTm.eq .res (.lit (.bool true))).value [] { args:=args,res:=some (.bool true),after:=args }=some (.bool (true == true)) from w_eq_bool (w_res rfl) w_lit) rfl
theorem attach_call{l:OpenLaw}{d:DefRec}(hn:l.most=some n)(hdf:d.params.defaults=[])(call:∀ (w:World) (s₀ s₁:Shared) (mg mb:Str->Option Value) (fa:Addr) (o:Obj) (pm cd doc:Value) (a:Addr) (vs:List Value) (ns:List Int),
   Ground q loose [] XP w s₀ mg mb s₁.heap->YP w s₁.heap->
   s₁.heap.get? fa=some o->o.data = .func (docDef d.name d.params d.body d.scope pm cd doc)->s₁.heap.CodeRec cd d.name->mg d.name=some (.ref fa)->
   s₁.heap.get? a=some { cls:=.type "list", data:=.seq vs.toArray }->IntsAre vs ns->ns.length<=n->s₁.gens = #[]->
   codeAny (model l.prog w) callerA (.call (.ref fa) ⟨[.ref a],[]⟩) (λ r s'=>r = .ok (.ret (.bool true))/\OldK s₁.heap s'.heap/\s'.os=s₁.os/\AllBare s'.gens) s₁):
  WalkO q loose XP YP l.row.toRowW d [] (λ f vs=>PySem.call f vs):=by
 intro w s₀ s₁ mg mb G Y fa o pm cd doc dV kV ho hd hcd hD hmg hg args vals as hpre hlay hrd hwl hlo;obtain rfl:dV = .none:=Dflts.none hD hdf;obtain rfl:kV = .none:=Dflts.noKw hD;obtain ⟨a,vs,ns,rfl,rfl,hobj,hints,hlen⟩:=zfC hn hpre hwl;refine enter_call (codeAny_mono (call w s₀ s₁ mg mb fa o pm cd doc a vs ns G Y ho (fd_plain hd) hcd hmg hobj hints hlen hg) λ r s' hq=>?_);obtain ⟨rfl,h2,h3,h4⟩:=hq;exact ⟨.inl ⟨.bool true,.bool true,[],rfl,λ _=>rfl,.bool true,zd8 l _,λ _=>⟨List.Pairwise.nil,λ _ hm=>(nomatch hm)⟩⟩,h2,h3,h4⟩
section
variable {K:Frag}
end
end Att
theorem we:∀ {vs:List Value} {ns:List Int},IntsAre vs ns->Vals (ns.map V.int) vs
 | _,_,.nil=>.nil
 | _,_,.cons n t h=>.cons ⟨t,rfl⟩ (we h)
noncomputable def cK(s:Stmt)(j:Nat):Stmt:=match s with
 | .ClassDef _ _ _ body _ _ _ _ _ _ _=>body.getD j (.Pass ⟨0,0,0,0⟩)
 | _=>.Pass ⟨0,0,0,0⟩
noncomputable def c4(s:Stmt):Arguments:=match s with
 | .FunctionDef _ a _ _ _ _ _ _ _ _=>a
 | _=>{ posonlyargs:=[],args:=[],vararg:=none,kwonlyargs:=[],kw_defaults:=[],kwarg:=none,defaults:=[] }
noncomputable def cu(s:Stmt):List Stmt:=match s with
 | .FunctionDef _ _ b _ _ _ _ _ _ _=>b
 | _=>[]
noncomputable def av(s:Stmt):Scope:=match s with
 | .FunctionDef _ _ _ _ _ _ sc _ _ _=>sc
 | _=>{ kind:=.function,names:=[],isGenerator:=false,isCoroutine:=false }
noncomputable abbrev CX0:CXT:=λ _ _ _ _ _ _=>False
noncomputable abbrev E0:XK:=λ _ _ _=>False
theorem ax  : cz CX0 X E0:=λ _ _ _ _ _ _ _ h=>h.elim
structure Fun (K:W.Frag) (x qual:Str) (st:Stmt) (f:Addr) (fd:FuncData):Prop where
 ex:∃ (oc:Value) (od:Option Addr) (kV doc pm:Value) (an:Option Addr) (cdv ct:Value) (osl:Array (Option Value)),
  fd=W.fnOf x qual (c4 st) (cu st) (av st) .none kV doc pm an cdv ct/\K.lookup f=some ⟨oc,od,.func fd,osl⟩/\W.codeIn K cdv qual=true
 kp:W.keepIn K (.ref f)=true
theorem Fun.ok{f:Addr}{k:Nat}(F:Fun K x qual st f fd)(S:aA N ps (av st))(len:∀ vs H Q E,sp vs H Q E->vs.length=ps.length)(hbody:∀ (cdv:Value) (A:Around) (outer:List Env) (s:Shared) (H:Hp) (vs:List V) (Q:VK) (E:XK),Room k (A.deeper (envOfC qual (av st) s.heap.objs.size f cdv))->sp vs H Q E->
   ∃ t,PSs (cI CX0 P w K mg base N qual (av st) f cdv A outer s H E).nox (cu st) t/\t { nx:=λ _ H'=>Q .non H',rt:=Q } (fb N vs) H):FnOk P w K mg base CX0 (k+1) f fd ps sp:=by
 obtain ⟨oc,od,kV,doc,pm,an,cdv,ct,osl,rfl,lk,hcd⟩:=F.ex;refine ma lk hcd S len λ A outer s H vs Q E hr hsp=>?_;obtain ⟨t,h,q⟩:=hbody cdv A outer s H vs Q E hr hsp;exact ⟨t,h.nox,q⟩
theorem Fun.binds{f:Addr}(F:Fun K x qual st f fd)(h:∀ (kV doc pm:Value) (an:Option Addr) (cdv ct:Value) (us:List Value),us.length=ps.length->bindArgs (W.fnOf x qual (c4 st) (cu st) (av st) .none kV doc pm an cdv ct) ⟨us,[]⟩=pure (ps.zip us)):Binds K fd ps []:=by
 obtain ⟨oc,od,kV,doc,pm,an,cdv,ct,osl,rfl,lk,hcd⟩:=F.ex;exact .all (h kV doc pm an cdv ct)
theorem jY{f:Addr}{kV:Value}(l:K.lookup f=some ⟨oc,od,.func (W.fnOf x qual (c4 st) (cu st) (av st) .none kV doc pm an cdv ct),osl⟩)(c:W.codeIn K cdv qual=true)(k:W.keepIn K (.ref f)=true):Fun K x qual st f (W.fnOf x qual (c4 st) (cu st) (av st) .none kV doc pm an cdv ct):=⟨⟨oc,od,kV,doc,pm,an,cdv,ct,osl,rfl,l,c⟩,k⟩
theorem fu{k:Nat}(hr:Room k A):A.units+1 < cLine:=Nat.lt_of_le_of_lt (Nat.add_le_add_left (by decide:1<=64) _) hr.units
theorem a9(h:n<=1000):n < sizeLine:=Nat.lt_of_le_of_lt h (by decide)
theorem pv(i:Nat)(hN:X.N[i]?=some x:=by rfl)(hv:Vis X.env.scope x:=by first | exact Or.inl rfl | exact Or.inr (Or.inl rfl) | exact Or.inr (Or.inr rfl))(hd:(x == ("__debug__" : Str))=false:=by decide)(hcd:(x == ("__classdict__" : Str))=false:=by decide):PE X (.Name x pos) (b8 i):=zdZ hN hv hd hcd
theorem jR:CallR X (.builtin "len") (λ xs H Q=>∃ a kvs,xs=[V.ref a]/\H a=some (.dK kvs)/\Q (.int kvs.length) H):=by
 intro pins s σ H xs us Q I r h;obtain ⟨a,kvs,rfl,ha,q⟩:=h;obtain ⟨u,rfl,ru⟩:=db r;cases ru;exact yA I (.inl ha) λ t s' I'=>⟨.int kvs.length,H,I',⟨t,rfl⟩,q⟩
theorem ap{A:Prop}(h:B):if false=true then A else B:=by
 rw [if_neg bi];exact h
theorem aw{A:Prop}(h:A):if true=true then A else B:=by
 rw [if_pos rfl];exact h
theorem ic{c A:Prop}[Decidable c](h1:c->A)(h2:¬ c->B):if c then A else B:=by
 by_cases h:c
 ·rw [if_pos h];exact h1 h
 ·rw [if_neg h];exact h2 h
noncomputable def Same(H H':Hp):Prop:=∀ b o,H b=some o->H' b=some o
theorem Same.refl(H:Hp):Same H H:=λ _ _ h=>h
theorem Same.trans(a:Same H H1)(b:Same H1 H2):Same H H2:=λ c o h=>b c o (a c o h)
theorem Same.free(e:Same H H'){l:Addr}(h:H' l=Option.none):H l=Option.none:=by
 cases q:H l with
 | none=>rfl
 | some o=>
  rw [e l o q] at h;cases h
theorem Same.seq(e:Same H H')(h:SqL K H a xs):SqL K H' a xs:=by
 rcases h with (h | ⟨o,h⟩) | h
 ·exact .inl (.inl (e _ _ h))
 ·exact .inl (.inr ⟨o,e _ _ h⟩)
 ·exact .inr h
section
variable [DecidableEq κ]
end
noncomputable def dA(cells:List (Str × Addr)):List (Str × NameKind)->List (Str × Addr)->List (Str × Addr)
 | [],acc=>acc
 | (n,k)::r,acc=>if (k == NameKind.free)=true then dA cells r ((n,(cells.lookup n).getD 0)::acc) else dA cells r acc
theorem lU(cells:List (Str × Addr)):∀ (l:List (Str × NameKind)) (acc:List (Str × Addr)) (x:Str) (c:Addr),
  (dA cells l acc).lookup x=some c->((x,NameKind.free)∈l/\c=(cells.lookup x).getD 0)\/acc.lookup x=some c
 | [],_,_,_,h=>.inr h
 | (n,k)::r,acc,x,c,h=>by
  unfold dA at h
  split at h
  ·rename_i hk
   have hk:k=NameKind.free:=by simpa using hk
   rcases lU cells r _ x c h with ⟨m,e⟩ | e
   ·exact .inl ⟨bp _ m,e⟩
   ·rw [List.lookup_cons] at e
    split at e
    ·rename_i hx
     have hx:x=n:=by simpa using hx
     subst hx;exact .inl ⟨by rw [hk];exact b9,(Option.some.inj e).symm⟩
    ·exact .inr e
  ·rcases lU cells r acc x c h with ⟨m,e⟩ | e
   ·exact .inl ⟨bp _ m,e⟩
   ·exact .inr e
theorem jS(cells:List (Str × Addr)):∀ (l:List (Str × NameKind)) (acc:List (Str × Addr)) (x:Str),
  ((x,NameKind.free)∈l\/∃ c,acc.lookup x=some c)->∃ c,(dA cells l acc).lookup x=some c
 | [],_,_,h=>by
  rcases h with h | h
  ·cases h
  ·exact h
 | (n,k)::r,acc,x,h=>by
  unfold dA
  split
  ·rename_i hk
   refine jS cells r _ x ?_;rcases h with h | ⟨c,h⟩
   ·rcases al_mc.mp h with h | h
    ·injection h with h1 h2
     exact .inr ⟨(cells.lookup n).getD 0,by rw [h1,List.lookup_cons];simp⟩
    ·exact .inl h
   ·right;rw [List.lookup_cons]
    split
    ·exact ⟨_,rfl⟩
    ·exact ⟨c,h⟩
  ·rename_i hk
   refine jS cells r _ x ?_;rcases h with h | h
   ·rcases al_mc.mp h with h | h
    ·injection h with h1 h2
     exact absurd (by rw [← h2];rfl) hk
    ·exact .inl h
   ·exact .inr h
theorem yg(h:∀ x,(x,NameKind.free)∈scope.names->∃ c,env.cells.lookup x=some c):
  closureFor scope env=pure (dA env.cells scope.names []):=by
 have key:∀ (l:List (Str × NameKind)) (acc:List (Str × Addr)) (f:Str × NameKind->List (Str × Addr)->Sem (ForInStep (List (Str × Addr)))),
   (∀ n k cs,f (n,k) cs=if (k == NameKind.free)=true then cellOf env n >>= λ c=>pure (.yield ((n,c)::cs)) else pure (.yield cs))->
   (∀ x,(x,NameKind.free)∈l->∃ c,env.cells.lookup x=some c)->(forIn l acc f:Sem (List (Str × Addr)))=pure (dA env.cells l acc):=by
  intro l;induction l with
  | nil=>intro acc f _ _;rfl
  | cons p r ih=>
   intro acc f hf hl;obtain ⟨n,k⟩:=p;rw [List.forIn_cons,hf];unfold dA;by_cases hk:(k == NameKind.free)=true
   ·rw [if_pos hk,if_pos hk];have hk':k=NameKind.free:=by simpa using hk
    obtain ⟨c,hc⟩:=hl n (by rw [hk'];exact b9);rw [show cellOf env n=pure c from by unfold cellOf;rw [hc],pure_bind,pure_bind,hc];exact ih _ f hf λ x hx=>hl x (bp _ hx)
   ·rw [if_neg hk,if_neg hk,pure_bind];exact ih _ f hf λ x hx=>hl x (bp _ hx)
 unfold closureFor;refine (congrArg (λ t:Sem (List (Str × Addr))=>t >>= λ cs=>pure cs) (key scope.names [] _ ?_ h)).trans ?_
 ·intro n k cs;rfl
 ·rw [pure_bind]
noncomputable def pX(M:Model)(A:Around)(E:Value->Shared->Prop)(C:Addr)(x:Value)(s':Shared):Prop:=
 ∃ m,s'.heap.Ns C m/\∀ h',Heap.SameBut C s'.heap h'->∀ ce:Env,ce.locals=C->wpAny M A (passOn "comprehension.variables-let-go" x ce:Sem Value) (λ _ _=>False) E { s' with heap:=h' }
noncomputable def a7(X:Cx)(N:List Str)(scope:Scope)(C:Addr)(fp:List Addr)(s:Shared)(H:Hp):Cx where
 prog:=X.prog
 w:=X.w
 K:=X.K
 mg:=X.mg
 base:=X.base
 A:=X.A
 N:=N
 s₀:=s
 H₀:=H
 env:=compEnvC scope (dA X.env.cells scope.names []) C X.env
 outer:=X.stack
 stack:=X.stack
 ex:=fp
 fn:=λ _=>false
 calm:=X.calm
 pn:=[]
 xe:=notedBy (model X.prog X.w) X.A (compEnvC scope (dA X.env.cells scope.names []) C X.env) (pX (model X.prog X.w) X.A X.xe C)
structure CompScope (X:Cx) (N:List Str) (scope:Scope) (fr:List (Option Nat)):Prop where
 kind:scope.kind = .function
 nocell:(scope.names.all λ x=>decide (x.2≠.cell))=true
 locs:(scope.names.all λ x=>decide (x.2 = .local->scope.names.lookup x.1=some .local))=true
 free:(scope.names.all λ x=>decide (x.2 = .free->X.env.scope.names.lookup x.1=some .cell))=true
 len:fr.length=N.length
 pl:((List.range N.length).all λ i=>match fr[i]? with
  | some (some j)=>decide (X.N[j]?=N[i]?/\∃ x,N[i]?=some x/\scope.names.lookup x=some .free)
  | _=>true)=true
noncomputable def stC(fr:List (Option Nat))(σ:St):St:=fr.map λ o=>o.bind λ j=>(σ[j]?).join
noncomputable def Wk(σ σ2:St):Prop:=σ2.length=σ.length/\∀ (i:Nat) v,σ[i]?=some (some v)->σ2[i]?=some (some v)
theorem Wk.set{v:V}(h:σ[i]?=some none):Wk σ (σ.set i (some v)):=by
 refine ⟨by simp,λ j w hj=>?_⟩;by_cases e:i=j
 ·subst e;rw [h] at hj;cases hj
 ·rw [List.getElem?_set_ne e];exact hj
theorem Wk.refl(σ:St):Wk σ σ:=⟨rfl,λ _ _ h=>h⟩
theorem Wk.trans{σ σ1 σ2:St}(a:Wk σ σ1)(b:Wk σ1 σ2):Wk σ σ2:=⟨b.1.trans a.1,λ i v h=>b.2 i v (a.2 i v h)⟩
noncomputable def ff(X:Cx)(ifs:List Expr)(t:TT):Prop:=
 ∀ (pins:List (Addr × Obj)) (s:Shared) (σ:St) (H:Hp) (Q:Bool->Hp->Prop),Inv X pins σ H s->t σ H Q->
  wpAny (model X.prog X.w) X.A (forIn ifs true λ c r=>if r=true then do let ok ← isTrue c X.env (eval c X.env);pure (ForInStep.yield ok) else pure (ForInStep.yield r)) (TP X pins σ Q) X.xe s
noncomputable def kI:TT:=λ _ H Q=>Q true H
theorem bz  : ff X [] kI:=λ _ _ _ H _ I h=>wpAny_tests_nil ⟨H,I,h⟩
theorem jc{c:Expr}{t:TT}(h:PT X c t):ff X [c] t:=λ pins s σ H Q I q=>wpAny_tests_one (h pins s σ H Q I q)
theorem yh{target:Expr}{it acc:Value}(I:Nat->Shared->Prop)(Ex:Value->Shared->Prop)(hEx:∀ e s',Ex e s'->notedBy (model prog w) A env (λ x s''=>R (.error x) s'') e s')(turn:∀ n s,I n s->wpAny (model prog w) A (pyNext it) (λ r s₁=>match r with
   | none=>R (.ok .next) s₁
   | some v=>wpAny (model prog w) A (letOwnedTupleGo target it v) (λ _ s₁'=>wpAny (model prog w) A (assign target env v) (λ _ s₂=>
     wpAny (model prog w) A (forIn ifs true λ c r=>if r=true then do let ok ← isTrue c env (eval c env);pure (ForInStep.yield ok) else pure (ForInStep.yield r)) (λ ok s₃=>
      if ok=true then wpAny (model prog w) A (eval elt env) (λ x s₄=>
       wpAny (model prog w) A (call (.builtin "list.append") [acc,x]) (λ _ s₅=>∃ m,m < n/\I m s₅) Ex s₄) Ex s₃
      else ∃ m,m < n/\I m s₃) Ex s₂) Ex s₁') Ex s₁) Ex s)(n:Nat)(h:I n s):
  codeAny (model prog w) A (.compLoop (.ListComp elt [⟨target,iter,ifs,0⟩] scope pos) 0 it acc env) R s:=by
 refine codeAny_loop rfl I (λ n s hI=>?_) n h;show wpAny _ A ((compTurn (.ListComp elt [⟨target,iter,ifs,0⟩] scope pos) 0 it acc env).onRaise (λ x=>do noteFrame x env;theTreesLotGoes x)) _ _ s;refine wpAny_noted (wpAny_mono (E:=Ex) ?_ (λ _ _ q=>q) hEx);rw [compTurn_list];refine ah (wpAny_standAt (ah (wpAny_mono (turn n s hI) (λ r s₁ h₁=>?_) λ _ _ h'=>h')));cases r with
 | none=>exact aC h₁
 | some v=>
  refine ah (wpAny_mono h₁ (λ _ s₁' h₁'=>?_) λ _ _ h'=>h');refine ah (wpAny_mono h₁' (λ _ s₂ h₂=>ah (wpAny_mono h₂ (λ ok s₃ h₃=>?_) λ _ _ h'=>h')) λ _ _ h'=>h');cases ok with
  | false=>exact aC ⟨rfl,h₃⟩
  | true=>
   exact ah (ah (wpAny_mono h₃ (λ x s₄ h₄=>ah (wpAny_mono h₄ (λ _ s₅ h₅=>aC (aC ⟨rfl,h₅⟩)) λ _ _ h'=>h')) λ _ _ h'=>h'))
theorem sR{env:Env}:∀ {names:List (Str × NameKind)} {x:Str},names.lookup x=some .free->
  (names.map λ (n,k)=>if (k == NameKind.free && env.scope.kind == .function && env.kindOf n == some .cell) then (n,NameKind.cell) else (n,k)).lookup x=some .cell\/
  (names.map λ (n,k)=>if (k == NameKind.free && env.scope.kind == .function && env.kindOf n == some .cell) then (n,NameKind.cell) else (n,k)).lookup x=some .free
 | [],_,h=>by simp at h
 | (n,k)::r,x,h=>by
  have ih:=@sR env r x;rw [List.map_cons];rw [List.lookup_cons] at h;by_cases hx:x=n
  ·subst hx;have hk:k = .free:=by simpa using h
   subst hk;dsimp only
   split
   ·left;simp
   ·right;simp
  ·have hb:(x == n)=false:=by simpa using hx
   rw [hb] at h;rcases ih h with q | q
   ·left;dsimp only
    split <;> (rw [List.lookup_cons,hb];exact q)
   ·right;dsimp only
    split <;> (rw [List.lookup_cons,hb];exact q)
theorem sS{env:Env}:∀ {names:List (Str × NameKind)} {x:Str},
    ((names.map λ (n,k)=>if (k == NameKind.free && env.scope.kind == .function && env.kindOf n == some .cell) then (n,NameKind.cell) else (n,k)).lookup x=some .cell\/
     (names.map λ (n,k)=>if (k == NameKind.free && env.scope.kind == .function && env.kindOf n == some .cell) then (n,NameKind.cell) else (n,k)).lookup x=some .free)->
    (x,NameKind.free)∈names\/(x,NameKind.cell)∈names
  | [],_,h=>by simp at h
  | (n,k)::r,x,h=>by
    have ih:=@sS env r x;rw [List.map_cons] at h;by_cases hx:x=n
    · subst hx
      dsimp only at h
      split at h
      · rename_i hk
        simp at hk;exact .inl (by rw [hk.1.1];exact b9)
      · simp at h
        rcases h with h | h
        · exact .inr (by rw [h];exact b9)
        · exact .inl (by rw [h];exact b9)
    · have hb:(x == n)=false:=by simpa using hx
      have:(r.map λ (n,k)=>if (k == NameKind.free && env.scope.kind == .function && env.kindOf n == some .cell) then (n,NameKind.cell) else (n,k)).lookup x=some .cell\/
          (r.map λ (n,k)=>if (k == NameKind.free && env.scope.kind == .function && env.kindOf n == some .cell) then (n,NameKind.cell) else (n,k)).lookup x=some .free:=by
        dsimp only at h
        split at h <;> (rw [List.lookup_cons,hb] at h;exact h)
      rcases ih this with q | q
      · exact .inl (bp _ q)
      · exact .inr (bp _ q)
theorem CompScope.cell{fr:List (Option Nat)}(S:CompScope X N scope fr):∀ x∈scope.names,x.2≠.cell:=λ x hx=>
 of_decide_eq_true (List.all_eq_true.mp S.nocell x hx)
theorem CompScope.loc{fr:List (Option Nat)}(S:CompScope X N scope fr):∀ x∈scope.names,x.2 = .local->scope.names.lookup x.1=some .local:=λ x hx=>
 of_decide_eq_true (List.all_eq_true.mp S.locs x hx)
theorem CompScope.fre{fr:List (Option Nat)}(S:CompScope X N scope fr):∀ x,(x,NameKind.free)∈scope.names->X.env.scope.names.lookup x=some .cell:=λ x hx=>
 of_decide_eq_true (List.all_eq_true.mp S.free _ hx) rfl
theorem CompScope.get{fr:List (Option Nat)}(S:CompScope X N scope fr)(h:fr[i]?=some (some j))(hx:N[i]?=some x):
  X.N[j]?=some x/\scope.names.lookup x=some .free:=by
 have hi:i < N.length:=(al_gs.mp hx).1;have q:=List.all_eq_true.mp S.pl i (List.mem_range.mpr hi);rw [h] at q;obtain ⟨a,y,b,c⟩:=of_decide_eq_true q;rw [hx] at a b;cases b;exact ⟨a,c⟩
theorem yp{fr:List (Option Nat)}{h₁:Heap}{oD:Obj}(S:CompScope X N scope fr)(I:Inv X pins σ H s2)(f2:∀ b∈fp,dR X pins H b)(hfp:∀ b∈fp,b < s2.heap.objs.size)(old:∀ b o,s2.heap.get? b=some o->h₁.get? b=some o)(hD:h₁.get? s2.heap.objs.size=some oD)(hDd:∀ v,oD.data≠.cell v)(hns:h₁.Ns (s2.heap.objs.size+1) m):
  Inv (a7 X N scope (s2.heap.objs.size+1) fp s2 H) [(s2.heap.objs.size,oD)] (stC fr σ) H { s2 with heap:=h₁,toks:=t' }:=by
 have hcl:∀ x c,(dA X.env.cells scope.names []).lookup x=some c->X.env.cells.lookup x=some c:=λ x c e=>by
  rcases lU _ _ _ x c e with ⟨m,q⟩ | q
  ·obtain ⟨c',hc'⟩:=I.ok.has x (.inl (S.fre x m));rw [hc'] at q ⊢;rw [q];rfl
  ·cases q
 have frS:∀ b∈frs X.stack,b≠s2.heap.objs.size+1/\b≠s2.heap.objs.size:=λ b hb=>by
  obtain ⟨_,o,ho,_⟩:=I.stack.mem hb;have:=Heap.lt_size ho;exact ⟨Nat.ne_of_lt (Nat.lt_succ_of_lt this),Nat.ne_of_lt this⟩
 have celllt:∀ x c,X.env.cells.lookup x=some c->c < s2.heap.objs.size:=λ x c e=>by
  obtain ⟨v,q⟩:=I.cell x c e;exact q.lt
 refine ⟨⟨I.ok.mod,S.kind,I.ok.glob,I.ok.blt,Nat.le_succ _,λ x y c h1 h2=>I.ok.inj x y c (hcl x c h1) (hcl y c h2),λ x hx=>?_,λ x c hf=>Bool.noConfusion hf,I.ok.hd,I.ok.frames,.inl rfl,λ b hb=>⟨?_,λ x c e=>?_⟩,
   I.bs,Nat.le_trans I.ok.bsz I.sz,λ b o e hb=>?_,λ b hb hs=>?_,I.stack,I.stkFree⟩,
  rfl,I.bare,Un.kept old,⟨m,hns,λ i x v h1 h2 h3=>?_⟩,λ x c e=>?_,I.hok.fresh (Nat.le_succ _),λ x c e=>I.freeC x c (hcl x c e),λ p hp=>?_,I.hok.kept old,?_⟩
 ·refine jS _ _ _ x (.inl ?_);rcases sS hx with q | q
  ·exact q
  ·exact absurd rfl (S.cell _ q)
 ·have:=hfp b hb;exact Nat.ne_of_lt (Nat.lt_succ_of_lt this)
 ·exact (f2 b hb).2.2.2.2.1 x c (hcl x c e)
 ·have q:=f2 b hb;rcases q.2.2.2.1 with z | z
  ·exact I.ok.noex b o e z
  ·have:=(I.ok.bs b o e).1;exact absurd (Nat.lt_of_lt_of_le (Heap.lt_size this) z) (Nat.lt_irrefl _)
 ·rcases al_mc.mp (I.stkSub b hs) with z | z
  ·exact (f2 b hb).2.1 z
  ·exact (f2 b hb).2.2.1 z
 ·-- the names of the def around it
  unfold stC at h2;rw [aL] at h2;cases e:fr[i]? with
  | none=>rw [e] at h2;cases h2
  | some o=>
   rw [e] at h2;cases o with
   | none=>cases h2
   | some j=>
    have h2':(σ[j]?).join=some v:=Option.some.inj h2;obtain ⟨a,b⟩:=S.get e h1;have hσ:σ[j]?=some (some v):=by
     cases q:σ[j]? with
     | none=>rw [q] at h2';cases h2'
     | some o=>rw [q] at h2';cases o with
      | none=>cases h2'
      | some w=>cases h2';rfl
    have hfree:(x,NameKind.free)∈scope.names:=PySem.mem_of_lookup b;have hk:=S.fre x hfree;obtain ⟨mX,hnX,hlX⟩:=I.loc;obtain ⟨u,r,l⟩:=hlX j x v a hσ (.inr (.inl hk));refine ⟨u,r,.inr ⟨?_,?_⟩⟩
    ·exact sR b
    ·rcases l with ⟨k,_⟩ | ⟨_,c,ec,z⟩
     ·have k':X.env.scope.names.lookup x=some .local:=k;rw [hk] at k';cases k'
     ·obtain ⟨c',hc'⟩:=jS X.env.cells scope.names [] x (.inl hfree);have:=hcl x c' hc';rw [ec] at this;cases this;obtain ⟨o,ho,hd⟩:=z;exact ⟨c,hc',o,old c o ho,hd⟩
 ·obtain ⟨v,o,ho,hd⟩:=I.cell x c (hcl x c e);exact ⟨v,o,old c o ho,hd⟩
 ·have e:p=(s2.heap.objs.size,oD):=by simpa [a7] using hp
  subst e;refine ⟨hD,I.hok.fresh (Nat.le_refl _),?_,λ z=>(frS _ z).2 rfl,hDd⟩;exact Nat.ne_of_lt (Nat.lt_succ_self _)
 ·unfold stC;rw [ag];exact S.len
theorem yn{σc:St}{k:Nat}(I:Inv X pins σ H s2)(f2:∀ b∈fp,dR X pins H b)(I':Inv (a7 X N scope (s2.heap.objs.size+1) fp s2 H) [(s2.heap.objs.size,{ cls:=.type "list", data:=.seq its.toArray k })] σc H' s')(rv:Vals acc its)(hz:acc.length<=sizeLine):
  Inv X pins σ (upd H' s2.heap.objs.size (.lst acc)) s':=by
 obtain ⟨hp1,hp2,hp3,hp4,_⟩:=I'.pin (s2.heap.objs.size,{ cls:=.type "list", data:=.seq its.toArray k }) (by simp [a7]);have hp1:s'.heap.get? s2.heap.objs.size=some { cls:=.type "list", data:=.seq its.toArray k }:=hp1;have hp2:H' s2.heap.objs.size=none:=hp2;have ne:∀ b o,s2.heap.get? b=some o->b≠s2.heap.objs.size:=λ b o e=>Nat.ne_of_lt (Heap.lt_size e);have neH:∀ b o,H b=some o->b≠s2.heap.objs.size:=λ b o e=>Nat.ne_of_lt (I.hok.lt e);have B:=I'.base;have u:Un (frs X.stack) fp H (upd H' s2.heap.objs.size (.lst acc)) s2.heap s'.heap:=
  ⟨B.keep,B.slot,λ b o e n hx=>by rw [ai (ne b o e)];exact B.free b o e n hx,B.there,λ b xs e=>by rw [ai (neH b _ e)];exact B.tups b xs e,
   λ b o w e=>by rw [ai (neH b _ e)];exact B.frzs b o w e,λ b ps e=>by rw [ai (neH b _ e)];exact B.tbls b ps e⟩
 have hok:HOk X.prog X.w (upd H' s2.heap.objs.size (.lst acc)) s'.heap:=λ b o e=>by
  by_cases hb:b=s2.heap.objs.size
  ·subst hb;rw [af] at e;cases e;exact ⟨hz,its,k,rv,hp1⟩
  ·rw [ai hb] at e;exact (I'.hok b o e).stay (λ c w _ q=>q) (λ c q=>by rw [ai (aK q hp2)];exact q) λ c xs q=>by rw [ai (aK q hp2)];exact q
 have os:s'.os=s2.os:=I'.os;exact I.call' os u hok I'.bare λ b hb=>⟨(f2 b hb).2.2.2.1,(f2 b hb).2.1,λ x c e=>(f2 b hb).2.2.2.2.1 x c e,λ p hp=>(f2 b hb).2.2.2.2.2 p hp⟩
noncomputable def kF(fr:List (Option Nat))(wi:TI)(g:TG)(tc:TT)(te:TE):TE:=λ σ H Q=>wi σ H λ J H1=>
  ∃ W:Nat->Nat->List V->Hp->Prop,(∃ m,W 0 m [] H1)/\∀ i m acc H,W i m acc H->
    (J.stop i H/\∀ p,H p=none->Q (.ref p) (upd H p (.lst acc)))\/
    (J.go i H/\acc.length < sizeLine/\∀ x H',J.yld i H x H'->g x (stC fr σ) H' λ σ2 H2=>Wk (stC fr σ) σ2/\tc σ2 H2 λ b H3=>
       if b=true then te σ2 H3 λ y H4=>∃ m',m' < m/\W (i+1) m' (acc++[y]) H4 else ∃ m',m' < m/\W (i+1) m' acc H3)
theorem rB{fr:List (Option Nat)}{tn:Nat->Heap->Prop}{W:Nat->Nat->List V->Hp->Prop}{m0:Nat}{RR:Value->Addr->Result->Shared->Prop}(S:CompScope X N scope fr)(hc:X.calm=true)(hb:PG (a7 X N scope (s2.heap.objs.size+1) fp s2 H2) tg g/\ff (a7 X N scope (s2.heap.objs.size+1) fp s2 H2) ifs tc/\PE (a7 X N scope (s2.heap.objs.size+1) fp s2 H2) elt te)(I2:Inv X pins σ H2 s2)(T:fQ X.prog X.w X.K tg J fp it tn)(st2:tn 0 s2.heap)(f2:∀ b∈fp,dR X pins H2 b)(w0:W 0 m0 [] H2)(turn:∀ i m acc H,W i m acc H->(J.stop i H/\Qe acc H)\/
      (J.go i H/\acc.length < sizeLine/\∀ x H',J.yld i H x H'->g x (stC fr σ) H' λ σ2 H2=>Wk (stC fr σ) σ2/\tc σ2 H2 λ b H3=>
       if b=true then te σ2 H3 λ y H4=>∃ m',m' < m/\W (i+1) m' (acc++[y]) H4 else ∃ m',m' < m/\W (i+1) m' acc H3))(hRR:∀ s' acc H' m,Inv X pins σ (upd H' s2.heap.objs.size (.lst acc)) s'->s'.heap.Ns (s2.heap.objs.size+1) m->H' s2.heap.objs.size=none->H' (s2.heap.objs.size+1)=none->Qe acc H'->RR (.ref s2.heap.objs.size) (s2.heap.objs.size+1) (.ok .next) s')(hRE:∀ x s',pX (model X.prog X.w) X.A X.xe (s2.heap.objs.size+1) x s'->RR (.ref s2.heap.objs.size) (s2.heap.objs.size+1) (.error x) s'):
    wpAny (model X.prog X.w) X.A (newList []) (λ acc s₃=>wpAny (model X.prog X.w) X.A (newFunctionEnv scope X.env.globals (dA X.env.cells scope.names []) [] X.env.qual none .none (some X.env)) (λ cenv s₄=>
      codeAny (model X.prog X.w) X.A (.compStart (.ListComp elt [⟨tg,iter,ifs,0⟩] scope pos) 0 (.ref it) acc { cenv with scope:=relabel scope X.env }) (RR acc cenv.locals) s₄) E s₃) E s2:=by
  refine wpAny_newObj_type (wpAny_newFunctionEnv S.cell (by intro y hy;simp at hy) (λ h₁ hns₁ hsb₁=>?_) S.kind);dsimp only at hns₁ hsb₁ ⊢;rw [Heap.size_push] at hns₁ hsb₁ ⊢;have hfp:∀ b∈fp,b < s2.heap.objs.size:=λ b hb'=>by
    obtain ⟨o,ho,_⟩:=T.obj 0 _ st2 b hb';exact Heap.lt_size ho
  have old:∀ b o,s2.heap.get? b=some o->h₁.get? b=some o:=λ b o e=>
    hsb₁.extBut b o (Nat.ne_of_lt (Nat.lt_succ_of_lt (Heap.lt_size e))) (aU _ (aU _ e))
  have hD:h₁.get? s2.heap.objs.size=some { cls:=.type "list", data:=.seq ([]:List Value).toArray 0 }:=
    hsb₁.extBut _ _ (Nat.ne_of_lt (Nat.lt_succ_self _)) (aU _ (Heap.get?_push_size _ rfl))
  have I₁:=yp (t':=s2.toks+([]:List (Str × Value)).length) S I2 f2 hfp old hD (λ v=>by intro z;cases z) hns₁;have st₁:tn 0 h₁:=T.keep 0 _ _ st2 λ b _ o e=>old b o e;have loop:codeAny (model X.prog X.w) X.A (.compLoop (.ListComp elt [⟨tg,iter,ifs,0⟩] scope pos) 0 (.ref it) (.ref s2.heap.objs.size) (a7 X N scope (s2.heap.objs.size+1) fp s2 H2).env)
      (RR (.ref s2.heap.objs.size) (s2.heap.objs.size+1)) { s2 with heap:=h₁,toks:=s2.toks+([]:List (Str × Value)).length }:=by
    refine yh (λ n s'=>∃ i acc H' its k,Inv (a7 X N scope (s2.heap.objs.size+1) fp s2 H2) [(s2.heap.objs.size,{ cls:=.type "list", data:=.seq its.toArray k })] (stC fr σ) H' s'/\
      Vals acc its/\acc.length<=sizeLine/\tn i s'.heap/\(∀ b∈fp,H' b=none)/\W i n acc H')
      (a7 X N scope (s2.heap.objs.size+1) fp s2 H2).xe (λ e s' q=>wpAny_mono q (λ _ _ q=>hRE _ _ q) λ _ _ q=>hRE _ _ q) ?_ m0
      ⟨0,[],H2,[],0,I₁,.nil,Nat.zero_le _,st₁,λ b hb'=>(f2 b hb').1,w0⟩
    rintro n s3 ⟨i,acc,H3,its,k,I3,rv,hz,st3,fr3,w3⟩;have neD:∀ b∈fp,s2.heap.objs.size≠b:=λ b hb'=>Nat.ne_of_gt (hfp b hb');have stat:∀ {H':Hp} {ob:Obj},(∀ b∈fp,H' b=none)->∀ b∈fp,dR (a7 X N scope (s2.heap.objs.size+1) fp s2 H2) [(s2.heap.objs.size,ob)] H' b:=λ {H' ob} hn b hb'=>
      ⟨hn b hb',(I₁.ok.exf b hb').1,I₁.ok.exfs b hb',.inl hb',(I₁.ok.exf b hb').2,λ p hp=>by
        have e:p=(s2.heap.objs.size,ob):=by simpa [a7] using hp
        subst e;exact neD b hb'⟩
    obtain ⟨hb1,hb2,hb3⟩:=hb;rcases turn i n acc H3 w3 with ⟨stop,qn⟩ | ⟨go,hlen,step⟩
    · refine wpAny_mono (T.done (a7 X N scope (s2.heap.objs.size+1) fp s2 H2) rfl rfl rfl hc i _ s3 _ H3 (a7 X N scope (s2.heap.objs.size+1) fp s2 H2).xe I3 (stat fr3) st3 stop) (λ r s4 ⟨hr,I4⟩=>?_) λ _ _ x=>x
      subst hr;obtain ⟨mC,hnC,_⟩:=I4.loc;exact hRR s4 acc H3 mC (yn I2 f2 I4 rv hz) hnC (I4.pin (s2.heap.objs.size,{ cls:=.type "list", data:=.seq its.toArray k }) (by simp [a7])).2.1 I4.free qn
    · refine wpAny_mono (T.item (a7 X N scope (s2.heap.objs.size+1) fp s2 H2) rfl rfl rfl hc i _ s3 _ H3 (a7 X N scope (s2.heap.objs.size+1) fp s2 H2).xe I3 (stat fr3) st3 go) (λ r s4 ⟨u,hr,h4⟩=>?_) λ _ _ x=>x
      subst hr;refine wpAny_mono h4 (λ _ s5 ⟨x,H5,I5,r5,y5,st5,fr5⟩=>?_) λ _ _ x=>x;have I5':=I5.pinned (stat fr5) (T.obj _ _ st5);refine wpAny_mono (hb1 _ s5 _ H5 x u _ I5' r5 (step x H5 y5)) (λ _ s6 ⟨σ6,H6,I6,wk,q6⟩=>?_) λ _ _ x=>x;refine wpAny_mono (hb2 _ s6 σ6 H6 _ I6 q6) (λ b s7 ⟨H7,I7,q7⟩=>?_) λ _ _ x=>x;have tn_of:∀ {s8:Shared} {H8:Hp},Inv (a7 X N scope (s2.heap.objs.size+1) fp s2 H2) ([(s2.heap.objs.size,{ cls:=.type "list", data:=.seq its.toArray k })]++jd fp s5.heap) σ6 H8 s8->tn (i+1) s8.heap/\∀ b∈fp,H8 b=none:=λ {s8 H8} I8=>by
        refine ⟨T.keep _ _ _ st5 λ b hb' o e=>(I8.pin (b,o) (List.mem_append_right _ (List.mem_append_right _ (j8 hb' e)))).1,λ b hb'=>?_⟩;obtain ⟨o,e,d⟩:=T.obj _ _ st5 b hb';exact (I8.pin (b,o) (List.mem_append_right _ (List.mem_append_right _ (j8 hb' e)))).2.1
      cases b with
      | false=>
        rw [if_neg bi] at q7 ⊢;obtain ⟨m',hm,w7⟩:=q7;obtain ⟨t7,f7⟩:=tn_of I7;exact ⟨m',hm,i+1,acc,H7,its,k,(I7.unpinned).weak wk.1.symm wk.2,rv,hz,t7,f7,w7⟩
      | true=>
        rw [if_pos rfl] at q7 ⊢;refine wpAny_mono (hb3 _ s7 σ6 H7 _ I7 q7) (λ y s8 ⟨yv,H8,I8,ry,m',hm,w8⟩=>?_) λ _ _ x=>x;obtain ⟨t8,f8⟩:=tn_of I8;obtain ⟨e8,n8,l8,nf8,d8⟩:=I8.pin (s2.heap.objs.size,{ cls:=.type "list", data:=.seq its.toArray k }) (by simp [a7]);have e8:s8.heap.get? s2.heap.objs.size=some { cls:=.type "list", data:=.seq its.toArray k }:=e8;have hl:acc.length=its.length:=rv.length;refine call_meets F.slot_list_append ⟨_,e8,rfl⟩ F.entry_list_append (F.args_list_append_2 _ _) (PySem.list_append s2.heap.objs.size its.toArray k y (by rw [aW];omega)) ⟨e8,?_⟩;have q:=PySem.IsL.update e8 (·.push y);have q':(s8.heap.update s2.heap.objs.size (Obj.mapSeq (·.push y))).get? s2.heap.objs.size=some { cls:=.type "list", data:=.seq (its++[y]).toArray (k+1) }:=by
          first
            | simpa using q
            | (rw [q];simp)
        have oth:∀ b o,b≠s2.heap.objs.size->s8.heap.get? b=some o->(s8.heap.update s2.heap.objs.size (Obj.mapSeq (·.push y))).get? b=some o:=λ b o hb' e=>
          (Heap.get?_update_other s8.heap _ (Ne.symm hb')).trans e
        have I8a:Inv (a7 X N scope (s2.heap.objs.size+1) fp s2 H2) [] σ6 H8 s8:=I8.pins_of λ p hp=>absurd hp (by simp [a7]);have I9:=I8a.turned (t':=s8.toks) oth n8 l8 (.inr (Nat.le_refl _)) (λ x c e z=>by
          obtain ⟨v,o,ho,hd⟩:=I8a.cell x c e;rw [z,e8] at ho;cases ho;cases hd) (λ p hp=>absurd hp (by simp [a7]))
        have I10:Inv (a7 X N scope (s2.heap.objs.size+1) fp s2 H2) [(s2.heap.objs.size,{ cls:=.type "list", data:=.seq (its++[y]).toArray (k+1) })] σ6 H8 _:=I9.pins_of λ p hp=>by
          have e:p=(s2.heap.objs.size,{ cls:=.type "list", data:=.seq (its++[y]).toArray (k+1) }):=by simpa [a7] using hp
          subst e;exact ⟨q',n8,l8,nf8,λ v=>by intro z;cases z⟩
        refine ⟨m',hm,i+1,acc++[yv],H8,its++[y],k+1,I10.weak wk.1.symm wk.2,rv.append (.cons ry .nil),by rw [bc,dF];omega,?_,f8,w8⟩;exact T.keep _ _ _ t8 λ b hb' o e=>oth b o (Ne.symm (neD b hb')) e
  exact codeAny_compStart_list loop (T.self _ 0 _ _ _ st₁ loop)
theorem CompScope.clos{fr:List (Option Nat)}(S:CompScope X N scope fr)(I:Inv X pins σ H s):closureFor scope X.env=pure (dA X.env.cells scope.names []):=
 yg λ x hx=>I.ok.has x (.inl (S.fre x hx))
theorem rC{σ₀:St}(I:Inv X pins σ₀ H s2)(I':Inv X pins σ H' s')(hC:H' (s2.heap.objs.size+1)=none)(hs:Heap.SameBut (s2.heap.objs.size+1) s'.heap h'):Inv X pins σ H' { s' with heap:=h' }:=by
 obtain ⟨f1,f2,f3,f4,f5,f6⟩:=I.fpOk (H':=H') (b:=s2.heap.objs.size+1) (Nat.le_succ _) hC;exact I'.turned (t':=s'.toks) (λ b o hb e=>(hs.2 b hb).trans e) hC f2 f4 f5 f6
noncomputable def qk(CX:CXT)(X:Cx)(N:List Str)(scope:Scope)(E:XK):Prop:=∀ (fp:List Addr) (s:Shared) (H:Hp) (pins:List (Addr × Obj)) (σ:St),Inv X pins σ H s->(∀ b∈fp,dR X pins H b)->
 cz CX (a7 X N scope (s.heap.objs.size+1) fp s H) E
theorem zdS{E:XK}{fr:List (Option Nat)}(S:CompScope X N scope fr)(hc:X.calm=true)(hp:qk CX X N scope E)(hi:PI X tg iter wi)(hb:∀ C fp s H,cz CX (a7 X N scope C fp s H) E->PG (a7 X N scope C fp s H) tg g/\ff (a7 X N scope C fp s H) ifs tc/\PE (a7 X N scope C fp s H) elt te)(hs:∀ x,foldedSetIterable iter X.env x=pure x:=by intro _;rfl):
  PE X (.ListComp elt [⟨tg,iter,ifs,0⟩] scope pos) (kF fr wi g tc te):=by
 intro pins s σ H Q I h;rw [eval_ListComp];refine wpAny_comprehension_free (use:=none) rfl hs (S.clos I) S.kind S.loc (thn (hi pins s σ H _ I h) λ v s1 h1=>thn h1 λ itv s2 h2=>?_);obtain ⟨it,fp,tn,J,H2,e,I2,T,st2,f2,W,⟨m0,w0⟩,turn⟩:=h2;subst e;refine rB (Qe:=λ acc H=>∀ p,H p=none->Q (.ref p) (upd H p (.lst acc))) (RR:=λ acc C=>compPost (model X.prog X.w) X.A X.xe none (EP X pins σ Q) acc C) S hc (hb _ _ _ _ (hp fp s2 H2 pins σ I2 f2)) I2 T st2 f2 w0 turn ?_ λ x s' q=>q;intro s' acc H' m I' hn hD hC q;refine ⟨m,hn,λ h' hs'=>⟨.ref s2.heap.objs.size,_,rC I2 I' ?_ hs',rfl,q _ hD⟩⟩;rw [ai (Nat.ne_of_gt (Nat.lt_succ_self _))];exact hC
theorem kf{fr:List (Option Nat)}(S:CompScope X N scope fr)(hc:X.calm=true)(hi:PI X tg iter wi)(hb:∀ C fp s H,PG (a7 X N scope C fp s H) tg g/\ff (a7 X N scope C fp s H) ifs tc/\PE (a7 X N scope C fp s H) elt te)(hs:∀ x,foldedSetIterable iter X.env x=pure x:=by intro _;rfl):
  PE X (.ListComp elt [⟨tg,iter,ifs,0⟩] scope pos) (kF fr wi g tc te):=
 zdS (CX:=λ _ _ _ _ _ _=>False) (E:=λ _ _ _=>False) S hc (λ _ _ _ _ _ _ _ _ _ _ _ _ _ _ q=>q.elim) hi (λ C fp s H _=>hb C fp s H) hs
theorem zeg{E:XK}{fr:List (Option Nat)}(hN:X.N.Nodup)(hi':X.N[i]?=some y)(hx:Loc X.env.scope y)(S:CompScope X N scope fr)(hc:X.calm=true)(hp:qk CX X N scope E)(hi:PI X tg iter wi)(hb:∀ C fp s H,cz CX (a7 X N scope C fp s H) E->PG (a7 X N scope C fp s H) tg g/\ff (a7 X N scope C fp s H) ifs tc/\PE (a7 X N scope C fp s H) elt te)(hsw:swapsWith (.ListComp elt [⟨tg,iter,ifs,0⟩] scope pos) (some (.Name y py)) spos.line X.env=pure true:=by rfl)(hf:X.fn y=true\/X.env.scope.names.lookup y=some .local:=by first | exact .inl rfl | exact .inr rfl | assumption)(hs:∀ x,foldedSetIterable iter X.env x=pure x:=by intro _;rfl):
  PS X (.Assign [.Name y py] (.ListComp elt [⟨tg,iter,ifs,0⟩] scope pos) spos) (gF (kF fr wi g tc te) (dC i)):=by
 intro pins s σ H D I h;rw [exec_Assign_Name_used _ _ _ _ hsw];refine ah (wpAny_standAt (ah ?_));show wpAny _ X.A (do let _ ← comprehension (.ListComp elt [⟨tg,iter,ifs,0⟩] scope pos) scope X.env _ (newList []) false (eval iter X.env) (some (assign (.Name y py) X.env))) _ _ s;refine ah (wpAny_mono (wpAny_comprehension_free (use:=some (assign (.Name y py) X.env)) (Q:=λ _ s'=>SP X pins D .next s') rfl hs (S.clos I) S.kind S.loc
  (thn (hi pins s σ H _ I h) λ v s1 h1=>thn h1 λ itv s2 h2=>?_)) (λ _ s' hq=>aC (aC hq)) λ _ _ e=>e)
 obtain ⟨it,fp,tn,J,H2,e,I2,T,st2,f2,W,⟨m0,w0⟩,turn⟩:=h2;subst e;refine rB (Qe:=λ acc H=>∀ p,H p=none->dC i (.ref p) σ (upd H p (.lst acc)) D.nx) (RR:=λ acc C=>compPost (model X.prog X.w) X.A X.xe (some (assign (.Name y py) X.env)) (λ _ s'=>SP X pins D .next s') acc C) S hc (hb _ _ _ _ (hp fp s2 H2 pins σ I2 f2)) I2 T st2 f2 w0 turn ?_ λ x s' q=>q;intro s' acc H' m I' hn hD hC q;show wpAny _ X.A (assign (.Name y py) X.env (.ref s2.heap.objs.size)) _ _ _;refine wpAny_assign_Name (vE (v:=.ref s2.heap.objs.size) I' hN hi' hx rfl (λ s'' I'' hsb=>?_) hf);obtain ⟨a,hsb,ha⟩:=hsb;have hCa:s2.heap.objs.size+1≠a:=by
  rcases ha with ha | ha
  ·rw [ha];exact Nat.ne_of_gt (Nat.lt_succ_of_lt I2.lt)
  ·obtain ⟨v,o,ho,_⟩:=I2.cell y a ha;exact Nat.ne_of_gt (Nat.lt_succ_of_lt (Heap.lt_size ho))
 refine ⟨m,hn.sameBut hsb hCa,λ h' hs'=>⟨_,_,rC I2 I'' ?_ hs',q _ hD⟩⟩;rw [ai (Nat.ne_of_gt (Nat.lt_succ_self _))];exact hC
theorem zef{fr:List (Option Nat)}(hN:X.N.Nodup)(hi':X.N[i]?=some y)(hx:Loc X.env.scope y)(S:CompScope X N scope fr)(hc:X.calm=true)(hi:PI X tg iter wi)(hb:∀ C fp s H,PG (a7 X N scope C fp s H) tg g/\ff (a7 X N scope C fp s H) ifs tc/\PE (a7 X N scope C fp s H) elt te)(hsw:swapsWith (.ListComp elt [⟨tg,iter,ifs,0⟩] scope pos) (some (.Name y py)) spos.line X.env=pure true:=by rfl)(hf:X.fn y=true\/X.env.scope.names.lookup y=some .local:=by first | exact .inl rfl | exact .inr rfl | assumption)(hs:∀ x,foldedSetIterable iter X.env x=pure x:=by intro _;rfl):
  PS X (.Assign [.Name y py] (.ListComp elt [⟨tg,iter,ifs,0⟩] scope pos) spos) (gF (kF fr wi g tc te) (dC i)):=
 zeg (CX:=λ _ _ _ _ _ _=>False) (E:=λ _ _ _=>False) hN hi' hx S hc (λ _ _ _ _ _ _ _ _ _ _ _ _ _ _ q=>q.elim) hi (λ C fp s H _=>hb C fp s H) hsw hf hs
noncomputable def CXr(P:Program)(w:World):CXT:=λ outer H s E e s'=>
 ∃ (a:Addr) (cls a0:Value) (H':Hp) (B:Heap),e = .ref a/\s'.os=s.os/\AllBare s'.gens/\Heap.FlyingW B outer a cls a0 s'.heap/\H' a=none/\
  Un (frs outer) [] H H' s.heap s'.heap/\HOk P w H' B/\(∀ b o,s.heap.get? b=some o->b∉frs outer->∃ o',B.get? b=some o'/\(H b=none->o'=o))/\E cls none H'
theorem ObjOk.there(x:ObjOk P w H h a o):∃ ob,h.get? a=some ob:=by
 cases o with
 | lst xs=>obtain ⟨_,_,_,_,e⟩:=x;exact ⟨_,e⟩
 | tup xs=>obtain ⟨_,_,_,o,e,_⟩:=x;exact ⟨o,e⟩
 | dK kvs=>obtain ⟨_,_,_,_,o,_,_,e,_⟩:=x;exact ⟨o,e⟩
 | dT kvs=>obtain ⟨_,_,_,_,o,_,_,e,_⟩:=x;exact ⟨o,e⟩
 | set S n=>obtain ⟨o,_,_,_,e,_⟩:=x;exact ⟨o,e⟩
 | ins C dx fs=>obtain ⟨_,_,_,e,_⟩:=x;exact ⟨_,e⟩
 | own y=>exact x
 | xd fs=>obtain ⟨_,⟨o,_,_,e,_⟩,_⟩:=x;exact ⟨o,e⟩
 | rng lo hi=>obtain ⟨_,_,_,e⟩:=x;exact ⟨_,e⟩
 | frz ob u=>obtain ⟨e,_⟩:=x;exact ⟨_,e⟩
 | tbl ps=>exact ⟨_,x⟩
 | met f y=>exact ⟨_,x⟩
 | ext φ=>obtain ⟨_,e,_⟩:=x;exact e
theorem Un.fly{fs:List Addr}{B:Heap}(u:Un fs [] H H' h h1)(hB:B.StaysIn h2)(hu:h1.UpToSlots h2)(cond:∀ b o,h.get? b=some o->b∉fs->∃ o',B.get? b=some o'/\(H b=none->o'=o))(hf:∀ b∈fs,∃ o,h1.get? b=some o/\∀ vs,o.data≠.fields vs):Un fs [] H H' h h2 where
 keep:=λ b o e n hb _=>by
  obtain ⟨o',e',q⟩:=cond b o e hb;rw [← q n];exact hB b o' e'
 slot:=λ b o e n hb hx=>by
  obtain ⟨sl,e1⟩:=u.slot b o e n hb hx;obtain ⟨o1,e1',nf⟩:=hf b hb;rw [e1] at e1';cases e1';obtain ⟨sl2,e2⟩:=hu b _ e1 nf;exact ⟨sl2,e2⟩
 free:=u.free
 there:=λ b o e hx=>by
  by_cases hb:b∈fs
  ·obtain ⟨o1,e1,nf⟩:=hf b hb;obtain ⟨sl2,e2⟩:=hu b _ e1 nf;exact ⟨_,e2⟩
  ·obtain ⟨o',e',_⟩:=cond b o e hb;exact ⟨o',hB b o' e'⟩
 tups:=u.tups
 frzs:=u.frzs
 tbls:=u.tbls
noncomputable def qm(X:Cx)(E:XK):Prop:=∀ (pins:List (Addr × Obj)) (σ:St) (H:Hp) (s:Shared) (h':Heap) (e:Addr) (cls:Value) (args:List Value),
 Inv X pins σ H s->Heap.MadeExcOf s.heap h' e cls args->E cls none H->X.xe (.ref e) { s with heap:=h' }
section
variable {f:Addr} {E:XK}
theorem eG:qm (cI (CXr P w) P w K mg base N qual scope f cd A outer s H E) E:=by
 intro pins σ H1 s1 h' e cls args I hx hE;have hin:∀ env∈(cI (CXr P w) P w K mg base N qual scope f cd A outer s H E).stack,∀ b,env.frame=some b->b∈frs (cI (CXr P w) P w K mg base N qual scope f cd A outer s H E).stack:=
  λ env he b hb=>List.mem_filterMap.mpr ⟨env,he,hb⟩
 have nfr:∀ b o,H1 b=some o->b∉frs (cI (CXr P w) P w K mg base N qual scope f cd A outer s H E).stack:=λ b o e hb=>by
  rw [I.stkFree b hb] at e;cases e
 have get:∀ b o,s1.heap.get? b=some o->b∉frs (cI (CXr P w) P w K mg base N qual scope f cd A outer s H E).stack->(W.hideAll s1.heap (frs (cI (CXr P w) P w K mg base N qual scope f cd A outer s H E).stack)).get? b=some o:=
  λ b o e hb=>W.hideAll_get _ e hb
 refine wpAny_leaves_madeW (base:=W.hideAll s1.heap (frs (cI (CXr P w) P w K mg base N qual scope f cd A outer s H E).stack)) (h:=s1.heap) (env:=envOfC qual scope s.heap.objs.size f cd) (outer:=outer) I.ok.frames rfl (λ b o q=>W.of_hideAll _ q) (W.funFrames_hide I.stack hin) hx λ h2 t x1 x2 x3 x4=>?_
 -- the callee's own frame stands above its entry
 have notL:∀ b o,s.heap.get? b=some o->b∉frs outer->b∉frs (cI (CXr P w) P w K mg base N qual scope f cd A outer s H E).stack:=λ b o e hb hs=>by
  rcases al_mc.mp (I.stkSub b hs) with z | z
  ·have:=Heap.lt_size e;exact absurd (Nat.lt_of_lt_of_le this I.ok.above) (by rw [z];exact Nat.lt_irrefl _)
  ·exact hb z
 have B:=I.base;have cond:∀ b o,s.heap.get? b=some o->b∉frs outer->∃ o',(W.hideAll s1.heap (frs (cI (CXr P w) P w K mg base N qual scope f cd A outer s H E).stack)).get? b=some o'/\(H b=none->o'=o):=λ b o e hb=>by
  obtain ⟨o',e1⟩:=B.there b o e (by intro z;exact absurd (show b∈([]:List Addr) from z) (by simp));refine ⟨o',get b o' e1 (notL b o e hb),λ n=>?_⟩;have:=B.keep b o e n hb (by intro z;exact absurd (show b∈([]:List Addr) from z) (by simp));rw [e1] at this;exact Option.some.inj this
 refine ⟨e,cls,.ref t,H1,_,rfl,I.os,I.bare,x1,?_,?_,?_,cond,hE⟩
 ·cases q:H1 e with
  | none=>rfl
  | some o=>
   obtain ⟨ob,e1⟩:=(I.hok e o q).there;have:=hx.new;rw [e1] at this;cases this
 ·refine Un.fly (h1:=s1.heap) B x1.1 ((Heap.UpToSlots.of_keeps hx.keeps).trans x4) cond λ b hb=>?_;obtain ⟨_,o,ho,nf⟩:=I.funs.mem hb;exact ⟨o,ho,nf⟩
 ·exact λ b o e1=>(I.hok b o e1).stay (λ c u hc q=>get c u q (by
   rcases hc with z | z
   ·rw [z];exact nfr b o e1
   ·exact nfr c _ z)) (λ _ q=>q) λ _ _ q=>q
theorem cV:cz (CXr P w) (cI (CXr P w) P w K mg base N qual scope f cd A outer s H E) E:=by
 rintro pins σ H1 s1 e s' I ⟨a,cls,a0,H',B,rfl,os,bare,hfl,ha,u,hok,cond,hE⟩;refine wpAny_leaves_onW (env:=envOfC qual scope s.heap.objs.size f cd) (outer:=outer) I.ok.frames rfl hfl λ h2 x1 x2=>?_;have u2:=u.fly x1.1 x2 cond λ b hb=>by
  obtain ⟨_,o,ho,nf⟩:=hfl.2.2.1.mem hb;exact ⟨o,ho,nf⟩
 have I2:=I.call' (s':={ s' with heap:=h2 }) os u2 (hok.kept x1.1) bare λ b hb=>absurd hb (by simp);refine ⟨a,cls,a0,H',B,rfl,I2.os,bare,x1,ha,I2.base,hok,λ b o e hb=>?_,hE⟩;have notL:b∉frs (cI (CXr P w) P w K mg base N qual scope f cd A outer s H E).stack:=λ hs=>by
  rcases al_mc.mp (I.stkSub b hs) with z | z
  ·have:=Heap.lt_size e;exact absurd (Nat.lt_of_lt_of_le this I.ok.above) (by rw [z];exact Nat.lt_irrefl _)
  ·exact hb z
 obtain ⟨o1,e1⟩:=I.base.there b o e (by intro z;exact absurd (show b∈([]:List Addr) from z) (by simp));obtain ⟨o',e',q⟩:=cond b o1 e1 notL;refine ⟨o',e',λ n=>?_⟩;have k:=I.base.keep b o e n hb (by intro z;exact absurd (show b∈([]:List Addr) from z) (by simp));rw [e1] at k;rw [q (I.base.free b o e n (by intro z;exact absurd (show b∈([]:List Addr) from z) (by simp)))];exact Option.some.inj k
end
structure ExcC (K:W.Frag) (C:Addr):Prop where
 ex:W.excIn K C [.type "ValueError", .type "Exception", .type "BaseException", .type "object"] "ValueError.__new__" = true
theorem zay{o:Option Obj}{f:Option Addr->ClassData->Array (Option Value)->Bool}(q:W.excIn.match_6 (λ _=>Bool) o f (λ _=>false)=true):∃ dd cd sl,o=some ⟨.type "type", dd,.cls cd,sl⟩/\f dd cd sl=true:=by
 rcases o with _ | ⟨cls,dd,data,sl⟩
 ·exact Bool.noConfusion q
 have e1:∃ tn,cls = .type tn:=by cases cls <;> first | exact ⟨_,rfl⟩ | exact Bool.noConfusion q
 obtain ⟨tn,rfl⟩:=e1;have e2:tn = "type" := by
  by_cases z:tn = "type"
  ·exact z
  ·unfold W.excIn.match_6 W.nsOkIn._sparseCasesOn_4 W.excIn._sparseCasesOn_6 at q;dsimp only at q;rw [dif_neg z] at q;exact Bool.noConfusion q
 subst e2;have e3:∃ cd,data = .cls cd:=by cases data <;> first | exact ⟨_,rfl⟩ | exact Bool.noConfusion q
 obtain ⟨cd,rfl⟩:=e3;exact ⟨dd,cd,sl,rfl,q⟩
noncomputable def M1r(mro:List Value)(l:List (Option Value))(g:Addr->List Value->Option Value->Option Value->Option Value->Option Value->String->Option Value->Bool):Prop:=∃ C' bm k0 k1 k2 k3 n k5,mro = .ref C' :: bm/\l=[k0,k1,k2,k3,some (.builtin n),k5]/\g C' bm k0 k1 k2 k3 n k5=true
theorem zax{mro:List Value}{l:List (Option Value)}{g:Addr->List Value->Option Value->Option Value->Option Value->Option Value->String->Option Value->Bool}(q:W.excIn.match_1 (λ _ _=>Bool) mro l g (λ _ _=>false)=true):M1r mro l g:=by
 have e4:∃ C' bm,mro = .ref C' :: bm:=by
  rcases mro with _ | ⟨m,bm⟩
  ·exact Bool.noConfusion q
  ·cases m <;> first | exact ⟨_,_,rfl⟩ | exact Bool.noConfusion q
 obtain ⟨C',bm,rfl⟩:=e4;rcases l with _ | ⟨k0,_ | ⟨k1,_ | ⟨k2,_ | ⟨k3,_ | ⟨v,r⟩⟩⟩⟩⟩
 iterate 5 exact Bool.noConfusion q
 have e6:∃ n,v=some (.builtin n):=by
  rcases v with _ | v
  ·exact Bool.noConfusion q
  ·cases v <;> first | exact ⟨_,rfl⟩ | exact Bool.noConfusion q
 obtain ⟨n,rfl⟩:=e6;rcases r with _ | ⟨k5,_ | ⟨_,_⟩⟩
 ·exact Bool.noConfusion q
 ·exact ⟨C',bm,k0,k1,k2,k3,n,k5,rfl,rfl,q⟩
 ·exact Bool.noConfusion q
noncomputable def ExcOb(h:Heap)(C:Addr):Prop:=∃ bm N nm q bs hdct sn sub ab col dd k0 k1 k2 k3 k5 mN,
  h.get? C=some (excClassObj nm q C N bs bm hdct sn sub ab col dd k0 k1 k2 k3 k5 "ValueError.__new__")/\h.Ns N mN/\mN "__init__" = none/\OwnTail h [.type "ValueError", .type "Exception", .type "BaseException", .type "object"] bm
theorem ExcOb.mk(X:K.In h){bm N nm q bs hdct sn sub ab col dd k0 k1 k2 k3 k5}(ho:K.lookup C=some (excClassObj nm q C N bs bm hdct sn sub ab col dd k0 k1 k2 k3 k5 "ValueError.__new__"))(ht:W.tailIn K [.type "ValueError", .type "Exception", .type "BaseException", .type "object"] bm=true)(hok:W.nsOkIn K N=true)(hni:W.nsIn K N "__init__" = some none):ExcOb h C:=
 ⟨bm,N,nm,q,bs,hdct,sn,sub,ab,col,dd,k0,k1,k2,k3,k5,_,X _ _ ho,.of_isNs (W.isNs_of_in X hok),W.nsMap_none_of_in X hok hni,W.tail_of_in X ht⟩
theorem ExcC.obj(c:ExcC K C)(X:K.In h):ExcOb h C:=by
 obtain ⟨dd,⟨nm,bs,mro,ns,qn,hd,sn,sub,ab,col,del⟩,⟨l⟩,ho,q⟩:=zay c.ex;obtain ⟨C',bm,k0,k1,k2,k3,n,k5,rfl,rfl,q⟩:=zax q;simp only [Bool.and_eq_true,beq_iff_eq,Bool.not_eq_true'] at q;obtain ⟨⟨⟨⟨⟨rfl,rfl⟩,rfl⟩,ht⟩,hok⟩,hni⟩:=q;exact .mk X ho ht hok hni
noncomputable def zgk(E:XK)(C:Addr)(t:TA):TS:=λ _ σ H=>t σ H λ vs H1=>vs.length<=sizeLine/\E (.ref C) none H1
theorem eF{E:XK}{e0:Expr}{t:TA}(T:qm X E)(c:ExcC X.K C)(hc:X.calm=true)(hg:Gl X x)(hm:X.mg x=some (.ref C))(ha:PA X (e0::es) t)(hdb:(x == ("__debug__" : Str))=false:=by decide)(he:starEach (e0::es) X.env=(false,eval e0 X.env)::starEach es X.env:=by rfl)(hpl:(backTo cpos (starEach es X.env)).any (·.1)=false:=by rfl):
  PS X (.Raise (some (.Call (.Name x np) (e0::es) [] cpos)) none pos) (zgk E C t):=by
 intro pins s σ H D I h;obtain ⟨bm,Nn,nm,q,bs,hdct,sn,sub,ab,col,dd,k0,k1,k2,k3,k5,mN,hC,hN,hni,TL⟩:=c.obj I.ok.mod.kin;refine wpAny_Raise_call_subT (C:=C) (nm:=nm) (q:=q) (N:=Nn) (bs:=bs) (bm:=bm) (hdct:=hdct) (sn:=sn) (sub:=sub) (ab:=ab) (col:=col) (dd:=dd) (k0:=k0) (k1:=k1) (k2:=k2) (k3:=k3) (k5:=k5) (mN:=mN)
  F.excBase_ValueError (TL.hasType rfl) (I.ok.hd hc) (by rw [he];show (false || (backTo cpos (starEach es X.env)).any (·.1))=false;rw [hpl];rfl) hni (eD I hg hm ⟨rfl,?_⟩ hdb)
 have key:=ha cpos pins s σ H _ I h;rw [he] at key ⊢;refine Calls.evalArgs_plain (wpAny_mono key (λ us s2 ⟨vs,H2,I2,r2,hl,q2⟩=>⟨rfl,by rw [← r2.length];exact hl,I2.bk _ _ hC,hN.keeps I2.bk,TL.keeps I2.bk,λ h' e hx=>?_⟩) λ _ _ y=>y);exact T pins σ H2 s2 h' e _ _ I2 hx q2
noncomputable def dQ(a:Addr)(cls:Value):HO:=.ext λ h=>∃ o vs,h.get? a=some o/\o.cls=cls/\o.data = .fields vs
theorem yK{o:Obj}{vs:Array Value}(e:h.get? a=some o)(hc:o.cls=cls)(hd:o.data = .fields vs):ObjOk P w H h a (dQ a cls):=
 ⟨⟨o,vs,e,hc,hd⟩,⟨o,e⟩,λ h1 h2 ⟨o',vs',e',c',d'⟩ k=>⟨o',vs',k o' e',c',d'⟩⟩
theorem Inv.track(I:Inv X pins σ H s)(hn:H a=none)(hs:X.s₀.heap.get? a=none)(hL:a≠X.env.locals)(hc:∀ x c,X.env.cells.lookup x=some c->c≠a)(hp:∀ p∈X.pn++pins,p.1≠a)(new:ObjOk X.prog X.w (upd H a o) s.heap a o):Inv X pins σ (upd H a o) s:=by
 have ne0:∀ b ob,X.s₀.heap.get? b=some ob->b≠a:=λ b ob e z=>by rw [z,hs] at e;cases e
 have neH:∀ b u,H b=some u->b≠a:=λ b u e z=>by rw [z,hn] at e;cases e
 refine ⟨I.ok,I.os,I.bare,⟨I.base.keep,I.base.slot,λ b ob e n hx=>by rw [ai (ne0 b ob e)];exact I.base.free b ob e n hx,I.base.there,λ b xs e=>?_,λ b ob u e=>?_,λ b ps e=>?_⟩,
  I.loc,I.cell,by rw [ai (Ne.symm hL)];exact I.free,λ x c e=>by rw [ai (hc x c e)];exact I.freeC x c e,λ p h=>?_,λ b u e=>?_,I.len⟩
 ·have q:=I.base.tups b xs e;rw [ai (neH b _ q)];exact q
 ·have q:=I.base.frzs b ob u e;rw [ai (neH b _ q)];exact q
 ·obtain ⟨m,q⟩:=I.base.tbls b ps e;exact ⟨m,by rw [ai (neH b _ q)];exact q⟩
 ·obtain ⟨q1,q2,q3⟩:=I.pin p h;exact ⟨q1,by rw [ai (hp p h)];exact q2,q3⟩
 ·by_cases hb:b=a
  ·subst hb;rw [af] at e;cases e;exact new
  ·rw [ai hb] at e;exact (I.hok b u e).stay (λ c v _ q=>q) (λ c q=>by rw [ai (neH c _ q)];exact q) λ c xs q=>by rw [ai (neH c _ q)];exact q
theorem Inv.locals{h':Heap}{m':Str->Option Value}{σ':St}{t':Nat}(I:Inv X pins σ H s)(hs:Heap.SameBut X.env.locals s.heap h')(hn:h'.Ns X.env.locals m')(hl:σ'.length=σ.length)(hm:∀ (j:Nat) (y:Str) (v:V),X.N[j]?=some y->σ'[j]?=some (some v)->Vis X.env.scope y->∃ u,RelV v u/\qh X.env h' m' y u):Inv X pins σ' H { s with heap:=h',toks:=t' }:=by
 have neL:∀ b o,X.s₀.heap.get? b=some o->b≠X.env.locals:=λ b o e=>Nat.ne_of_lt (Nat.lt_of_lt_of_le (Heap.lt_size e) I.ok.above);refine ⟨I.ok,I.os,I.bare,⟨λ b o e n hb hx=>(hs.2 b (neL b o e)).trans (I.base.keep b o e n hb hx),λ b o e n hb hx=>?_,I.base.free,λ b o e hx=>?_,I.base.tups,I.base.frzs,I.base.tbls⟩,
  ⟨m',hn,hm⟩,λ y c e=>?_,I.free,I.freeC,λ p hp=>?_,λ b u e=>?_,hl.trans I.len⟩
 ·obtain ⟨sl,q⟩:=I.base.slot b o e n hb hx;exact ⟨sl,(hs.2 b (neL b o e)).trans q⟩
 ·obtain ⟨o',q⟩:=I.base.there b o e hx;exact ⟨o',(hs.2 b (neL b o e)).trans q⟩
 ·obtain ⟨v,z⟩:=I.cell y c e;exact ⟨v,z.sameBut hs (I.cne y c e)⟩
 ·obtain ⟨q1,q2,q3,q4⟩:=I.pin p hp;exact ⟨(hs.2 p.1 q3).trans q1,q2,q3,q4⟩
 ·refine (I.hok b u e).stay (λ c v hc q=>(hs.2 c ?_).trans q) (λ _ q=>q) λ _ _ q=>q;rintro rfl;rcases hc with z | z
  ·rw [← z,I.free] at e;cases e
  ·rw [I.free] at z;cases z
theorem sZ{n:Str}{Q:Unit->Shared->Prop}(I:Inv X pins σ H s)(hN:X.N.Nodup)(hi:X.N[i]?=some n)(hl:X.env.scope.names.lookup n=some .local)(h:∀ s',Inv X pins (σ.set i none) H s'->Q () s'):wpAny M A (do bindName X.env n .none;unbindBehindTheSuite X.env n pos) Q E s:=by
 refine ah (wpAny_bindName (jq (v:=.non) I hN hi (.inl hl) rfl (λ s1 I1=>?_) (.inr hl)));have hiσ:i < σ.length:=by rw [I.len];exact (al_gs.mp hi).1
 unfold unbindBehindTheSuite;refine wpAny_onRaise ?_;obtain ⟨m,hn,hm⟩:=I1.loc;have hv:∃ u,m n=some u:=by
  obtain ⟨u,_,q⟩:=hm i n .non hi (by rw [List.getElem?_set_self hiσ]) (.inl hl);rcases q with ⟨_,q⟩ | ⟨k,_⟩
  ·exact ⟨u,q⟩
  ·have k:X.env.scope.names.lookup n=some .cell\/X.env.scope.names.lookup n=some .free:=k;rw [hl] at k;rcases k with k | k <;> cases k
 obtain ⟨u,hv⟩:=hv;refine wpAny_unbindName_local hl hn hv (by rw [I.ok.kind];rfl) λ h' u' hn' hs'=>h _ (I1.locals (t':=s1.toks) hs' hn' (by simp) λ j y v e1 e2 e3=>?_);have hj:j≠i:=λ z=>by
  subst z;rw [List.getElem?_set_self hiσ] at e2;cases e2
 rw [List.getElem?_set_ne (Ne.symm hj)] at e2;obtain ⟨u2,r2,q⟩:=hm j y v e1 (by rw [List.getElem?_set_ne (Ne.symm hj)];exact e2) e3;refine ⟨u2,r2,?_⟩;rcases q with ⟨k,e⟩ | ⟨k,c,e,z⟩
 ·refine .inl ⟨k,?_⟩;have:y≠n:=λ e=>hj (eU hN e1 (e ▸ hi));show (if y=n then u' else m y)=some u2;rw [if_neg this];exact e
 ·exact .inr ⟨k,c,e,z.sameBut hs' (I1.cne y c e)⟩
noncomputable def fV(X:Cx)(pn:List (Addr × Obj))(xe:Value->Shared->Prop):Cx:={ X with pn:=pn,xe:=xe }
noncomputable def fU(X:Cx)(a:Addr):Cx:={ X with A:=X.A.mark (some (.ref a)),calm:=false,xe:=λ _ _=>False }
section
variable {xe:Value->Shared->Prop}
theorem Cx.Ok.toTry(ok:X.Ok):(fV X pn xe).Ok:=
 ⟨ok.mod,ok.kind,ok.glob,ok.blt,ok.above,ok.inj,ok.has,ok.cab,ok.hd,ok.frames,ok.stk,ok.exf,ok.bs,ok.bsz,ok.noex,ok.exfs,ok.funs,ok.frf⟩
theorem Cx.Ok.ofTry(ok:(fV X pn xe).Ok):X.Ok:=
 ⟨ok.mod,ok.kind,ok.glob,ok.blt,ok.above,ok.inj,ok.has,ok.cab,ok.hd,ok.frames,ok.stk,ok.exf,ok.bs,ok.bsz,ok.noex,ok.exfs,ok.funs,ok.frf⟩
theorem Inv.toTry(I:Inv X pins σ H s):Inv (fV X (X.pn++pins) xe) [] σ H s:=
 ⟨I.ok.toTry,I.os,I.bare,I.base,I.loc,I.cell,I.free,I.freeC,λ p hp=>I.pin p (by simpa [fV] using hp),I.hok,I.len⟩
theorem Inv.ofTry(I:Inv (fV X (X.pn++pins) xe) pins' σ H s):Inv X pins σ H s:=
 ⟨I.ok.ofTry,I.os,I.bare,I.base,I.loc,I.cell,I.free,I.freeC,λ p hp=>I.pin p (List.mem_append_left _ hp),I.hok,I.len⟩
theorem Cx.Ok.toSuite(ok:X.Ok):(fU X a).Ok:=
 ⟨ok.mod,ok.kind,ok.glob,ok.blt,ok.above,ok.inj,ok.has,ok.cab,λ z=>Bool.noConfusion z,ok.frames,ok.stk,ok.exf,ok.bs,ok.bsz,ok.noex,ok.exfs,ok.funs,ok.frf⟩
theorem Cx.Ok.ofSuite(hd:X.calm=true->X.A.handled=none)(ok:(fU X a).Ok):X.Ok:=
 ⟨ok.mod,ok.kind,ok.glob,ok.blt,ok.above,ok.inj,ok.has,ok.cab,hd,ok.frames,ok.stk,ok.exf,ok.bs,ok.bsz,ok.noex,ok.exfs,ok.funs,ok.frf⟩
theorem Inv.toSuite(I:Inv X pins σ H s):Inv (fU X a) pins σ H s:=
 ⟨I.ok.toSuite,I.os,I.bare,I.base,I.loc,I.cell,I.free,I.freeC,I.pin,I.hok,I.len⟩
theorem Inv.ofSuite(hd:X.calm=true->X.A.handled=none)(I:Inv (fU X a) pins σ H s):Inv X pins σ H s:=
 ⟨I.ok.ofSuite hd,I.os,I.bare,I.base,I.loc,I.cell,I.free,I.freeC,I.pin,I.hok,I.len⟩
noncomputable def zgo(K:W.Frag)(R:Addr)(nN i:Nat)(tb:XK->TS)(ts:TS):TS:=λ D σ H=>
 tb (λ cls _ H'=>W.exmOne K cls (.ref R)=some true/\∀ a,H' a=none->
  ts { nx:=λ σ2 H2=>D.nx (σ2.set i none) H2,rt:=D.rt } ((List.replicate nN none).set i (some (.ref a))) (upd H' a (dQ a cls))) D σ H
theorem zeh{R:Addr}{n:Str}{hpos:Pos}{b0:Stmt}{suite:List Stmt}{tb:XK->TS}{ts:TS}(hst:X.stack=X.env::X.outer)(hfr:X.env.frame=some X.env.locals)(hex:X.ex=[])(hN:X.N.Nodup)(hi:X.N[i]?=some n)(hl:X.env.scope.names.lookup n=some .local)(hg:Gl X x)(hm:X.mg x=some (.ref R))(hb:∀ pn xe E,cz (CXr X.prog X.w) (fV X pn xe) E->PSs (fV X pn xe) body (tb E))(hs:∀ a,PSs (fU X a) (b0::suite) ts)(hdb:(x == ("__debug__" : Str))=false:=by decide):
  PS X (.Try body [.ExceptHandler (some (.Name x np)) (some n) (b0::suite) hpos] [] [] pos) (zgo X.K R X.N.length i tb ts):=by
 intro pins s σ H D I h;refine wpAny_Try_except ?_;have frames:X.A.frames=some (X.env::X.outer):=by rw [← hst];exact I.ok.frames
 have pass:cz (CXr X.prog X.w) (fV X (X.pn++pins) (λ e s₁=>wpAny (model X.prog X.w) X.A (noteFrame e X.env) (λ _ s₂=>wpAny (model X.prog X.w) X.A (setFlight e none) (λ _ s₃=>
   wpAny (model X.prog X.w) X.A (handleBy e X.env [.ExceptHandler (some (.Name x np)) (some n) (b0::suite) hpos]) (SP X pins D) X.xe s₃) X.xe s₂) X.xe s₁))
   (λ cls _ H'=>W.exmOne X.K cls (.ref R)=some true/\∀ a,H' a=none->
    ts { nx:=λ σ2 H2=>D.nx (σ2.set i none) H2,rt:=D.rt } ((List.replicate X.N.length none).set i (some (.ref a))) (upd H' a (dQ a cls))):=by
  rintro pins' σ' H1 s1 e s' I' ⟨a,cls,a0,H',B,rfl,os,bare,hfl,ha,u,hok,cond,hE1,hE2⟩;have IX:Inv X pins σ' H1 s1:=I'.ofTry;have hfl':Heap.FlyingW B (X.env::X.outer) a cls a0 s'.heap:=hst ▸ hfl;have fr':∀ b∈frs X.stack,∃ o,s'.heap.get? b=some o/\∀ vs,o.data≠.fields vs:=λ b hb'=>by
   obtain ⟨_,o,ho,nf⟩:=hfl.2.2.1.mem hb';exact ⟨o,ho,nf⟩
  have fresh:s1.heap.get? a=none:=by
   cases q:s1.heap.get? a with
   | none=>rfl
   | some o=>
    by_cases hb':a∈frs X.stack
    ·obtain ⟨o',ho',nf⟩:=fr' a hb';obtain ⟨oe,vs,_,_,_,he,_,hd,_⟩:=hfl.2.2.2;rw [ho'] at he;cases he;exact absurd hd (nf vs)
    ·obtain ⟨o',e',_⟩:=cond a o q hb';have:=hfl.2.1;rw [e'] at this;cases this
  show wpAny (model X.prog X.w) X.A (noteFrame (.ref a) X.env) _ _ s';refine wpAny_looks_onW frames hfr hfl' λ h4 held4 sm4=>?_;refine wpAny_landsW held4 λ h5 fl5 sm5=>?_;have I5:Inv X pins σ' H' { s' with heap:=h5 }:=IX.call' (s':={ s' with heap:=h5 }) os (u.fly fl5.1 (sm4.trans sm5) cond fr') (hok.kept fl5.1) bare λ b z=>absurd z (by simp);obtain ⟨ob,hob,hobc⟩:=fl5.there;have I5s:Inv (fU X a) pins σ' H' { s' with heap:=h5 }:=I5.toSuite;refine wpAny_handleBy_cons (codeAny_handlers_test (eD I5s hg hm ?_ hdb)) (by intro q;cases q);refine (W.exm_one I5.kIn (hobc ▸ (W.Looks.ld hob).andThen .now) hE1).here ?_;show codeAny _ _ _ _ _;refine codeAny_handlers_suite_as ?_;refine lands_againW fl5 λ h6 fl6 sm6=>?_;have I6:Inv X pins σ' H' { s' with heap:=h6 }:=IX.call' (s':={ s' with heap:=h6 }) os (u.fly fl6.1 ((sm4.trans sm5).trans sm6) cond fr') (hok.kept fl6.1) bare λ b z=>absurd z (by simp);have I6w:Inv X pins (List.replicate X.N.length none) H' { s' with heap:=h6 }:=I6.weak (by rw [List.length_replicate,I6.len]) λ j v e=>by
   rw [List.getElem?_replicate] at e
   split at e <;> cases e
  obtain ⟨oe,vs,_,_,_,he6,⟨hc6,_⟩,hd6,_⟩:=fl6.2.2.2;have I7:Inv X pins (List.replicate X.N.length none) (upd H' a (dQ a cls)) { s' with heap:=h6 }:=by
   refine I6w.track ha ?_ ?_ (λ y c e z=>?_) (λ p hp z=>?_) (yK he6 hc6 hd6)
   ·cases q:X.s₀.heap.get? a with
    | none=>rfl
    | some o=>
     obtain ⟨o',e'⟩:=IX.base.there a o q (by rw [hex];simp);rw [fresh] at e';cases e'
   ·rintro rfl;obtain ⟨m,⟨o,_,_,ho,_⟩,_⟩:=IX.loc;rw [fresh] at ho;cases ho
   ·obtain ⟨v,o,ho,_⟩:=IX.cell y c e;rw [z,fresh] at ho;cases ho
   ·have:=(IX.pin p hp).1;rw [z,fresh] at this;cases this
  have I7s:Inv (fU X a) pins (List.replicate X.N.length none) (upd H' a (dQ a cls)) { s' with heap:=h6 }:=I7.toSuite;refine jq (X:=fU X a) (v:=.ref a) I7s hN hi (.inl hl) rfl (λ s8 I8=>?_) (.inr hl);refine wpAny_mono (hs a pins s8 _ _ _ I8 (hE2 a ha)) (λ f s9 q9=>?_) (λ _ _ z=>z.elim);cases f with
  | next=>
   obtain ⟨σ9,H9,I9,q⟩:=q9;exact sZ (I9.ofSuite I.ok.hd) hN hi hl λ s10 I10=>⟨_,_,I10,q⟩
  | ret v=>
   obtain ⟨v9,σ9,H9,I9,rv,q⟩:=q9;exact sZ (I9.ofSuite I.ok.hd) hN hi hl λ s10 I10=>⟨_,_,_,I10,rv,q⟩
  | brk=>
   obtain ⟨_,_,_,q⟩:=q9;exact False.elim q
  | cont=>
   obtain ⟨_,_,_,q⟩:=q9;exact False.elim q
 refine wpAny_mono (hb _ _ _ pass [] s σ H D I.toTry h) (λ f s1 q=>?_) λ e s1 q=>q;cases f with
 | next=>
  obtain ⟨σ1,H1,I1,q⟩:=q;exact wpAny_execs_nil ⟨σ1,H1,I1.ofTry,q⟩
 | ret v=>
  obtain ⟨v1,σ1,H1,I1,rv,q⟩:=q;exact ⟨v1,σ1,H1,I1.ofTry,rv,q⟩
 | brk=>
  obtain ⟨σ1,H1,I1,q⟩:=q;exact ⟨σ1,H1,I1.ofTry,q⟩
 | cont=>
  obtain ⟨σ1,H1,I1,q⟩:=q;exact ⟨σ1,H1,I1.ofTry,q⟩
end
structure gi (K:W.Frag) (C:Addr):Prop where
 cl:(W.clsIn K C).isSome=true
 ga:W.findIn K (.ref C) "__getattribute__" = some (some (.builtin "BaseException.__getattribute__"))
 gn:W.findIn K (.ref C) "__getattr__" = some none
 ca:W.findIn K (.ref C) "__class__" = some (some (.builtin "object.__class__"))
 cg:W.specialIn K (.builtin "object.__class__") "__get__" = some (some (.builtin "getset_descriptor.__get__"))
 ck:W.takesIn K (.builtin "object.__class__")=some true
 cm:W.mroIn K C (.type "object")=some true
 sb:W.subIn K (.ref C) (.type "BaseException")=some true
noncomputable def ExcAt(x C:Addr)(h:Heap):Prop:=∃ o vs,h.get? x=some o/\o.cls = .ref C/\o.data = .fields vs
theorem ExcAt.ty{x:Addr}(p:ExcAt x C h):W.Looks M h (typeOf (.ref x)) (.ref C):=by
 obtain ⟨o,vs,e,hc,_⟩:=p;exact hc ▸ (W.Looks.ld e).andThen .now
section
open Builtin Builtin.ObjectAttr Builtin.Getset_descriptor
variable {x:Addr}
theorem yL{Q:Option Value->Shared->Prop}(k:gi K C)(X:K.In s.heap)(I:ExcAt x C s.heap)(h:Q (some (.ref C)) { s with toks:=s.toks+1 }):
  wpAny (model prog w) A (getAttr? (.ref x) "__class__") Q E s:=by
 obtain ⟨hh,g,d,t,os⟩:=s;have L0:=I.ty (M:=model prog w);have L1:=W.looks_findIn (M:=model prog w) X k.ga;have L2:=W.looks_findIn (M:=model prog w) X k.gn;have L3:=W.looks_findIn (M:=model prog w) X k.ca;have L4:=W.looks_specialIn (M:=model prog w) X k.cg;have L5:=W.looks_takesIn (M:=model prog w) X k.ck;have L6:=W.looks_subIn (M:=model prog w) X k.sb;have L7:=W.looks_mroIn (M:=model prog w) X k.cm;unfold getAttr? getAttrBy? getAttrBy;refine ah (wpAny_mkText (ah (wpAny_attempt (wpAny_holding (ah (L0.at (ah (L1.at ?_))))))));dsimp only;have hx2:(Value.builtin "BaseException.__getattribute__" == Value.builtin "object.__getattribute__")=false:=by decide +kernel
 rw [if_neg (by rw [hx2,Bool.and_false];exact bi)];unfold getAttrByItsOwn hookBefore;refine ah ?_;rw [if_pos (show onTheHeap (Value.ref C)=true from rfl)];refine L2.at ?_;refine ah (wpAny_attempt (wpAny_holding ?_));unfold callGetattribute boundAndCalled;rw [if_neg (show ¬ ((false && onTheHeap (Value.builtin "BaseException.__getattribute__"))=true) from bi)];refine ah (wpAny_of_eq (F.attrBase_ValueError.ga.bind (.ref x)) ?_);dsimp only;refine wpAny_call (codeAny_call_builtin F.attrBase_ValueError.ga.plain F.entry_bexc_ga ?_);have hk:builtinKind "BaseException.__getattribute__" = some .slot:=by decide +kernel
 have hsplit:splitId "BaseException.__getattribute__" = some ("BaseException", "__getattribute__"):=by decide +kernel
 have ha:=F.args_bexc_ga (.ref x) (.str "__class__" t);simp only [checkBuiltinCall,hk,hsplit];refine ah ?_;unfold isInstance;refine ah (L0.at (L6.at ?_));rw [if_neg (show ¬ ((!true)=true) from bi)];refine wpAny_of_eq ha ?_;have LF:W.Looks (model prog w) hh (Builtin.ObjectAttr.find (.ref x) (.ref C) "__class__") (.bind (.builtin "getset_descriptor.__get__") (.builtin "object.__class__")):=
  L3.andThen (L4.andThen ((show W.Looks (model prog w) hh (Builtin.ObjectAttr.dataDescriptor? (some (.builtin "object.__class__")) (some (.builtin "getset_descriptor.__get__"))) (some (.builtin "getset_descriptor.__get__", .builtin "object.__class__")) from L5.andThen .now).andThen (W.Looks.tag .now)))
 unfold Builtin.«object.__getattribute__»;refine ah (wpAny_of_eq (a:=(Value.ref x,[Value.str "__class__" t])) rfl ?_);dsimp only;refine ah (wpAny_of_eq (a:=("__class__" : Str)) rfl ?_);refine ah (L0.at (ah (LF.at ?_)));dsimp only;refine ah (wpAny_holding (wpAny_call ?_));refine codeAny_call_builtin W.KF.slot_gs.plain W.KF.entry_gs
  (W.KF.slot_gs.check _ _ _ _ _ _ _ _ W.KF.type_class (W.KF.args_gs _ _ _) ?_)
 unfold Builtin.«getset_descriptor.__get__» descrGet;rw [W.dga_obj];refine ah (aC ?_);unfold descrGetter descrCheckInstance descrNameAndClass isInstance;simp only [W.KF.owner_class]
 repeat lk
 refine ⟨Code.quiet_builtin _ (by decide +kernel),?_⟩;refine codeAny_builtin W.KF.entry_class ?_;unfold Builtin.«object.__class__» shownTypeOf
 repeat lk
 exact h
theorem zam(k:gi K C):W.KitX K (.ref x) (.ref C) (ExcAt x C) where
 ty:=λ _ _ _ p=>p.ty
 it:=λ M h X _=>by
  obtain ⟨cd,hc⟩:=Option.isSome_iff_exists.mp k.cl;unfold W.clsIn at hc
  split at hc
  ·rename_i ho
   intro A' Q' E' s' kp q;unfold isType loadHead;exact ah (wpAny_loadPart (kp _ _ (X _ _ ho)) (aC q))
  ·cases hc
 ne:=λ h tp dd its n sl X htp=>by
  obtain ⟨cd,hc⟩:=Option.isSome_iff_exists.mp k.cl;refine Bool.eq_false_iff.mpr λ q=>?_;have e:C=tp:=Value.ref.inj (beq_iff_eq.mp q);rw [← e] at htp;unfold W.clsIn at hc
  split at hc
  ·rename_i ho
   have z:=(X _ _ ho).symm.trans htp;cases z
  ·cases hc
 ca:=λ X I h=>yL k X I h
end
noncomputable def gP(K:W.Frag)(H:Hp)(x c:V)(b:Bool):Prop:=
 ∃ cv,qr cv=some c/\(∀ u,RelV c u->u=cv)/\((∃ t,dq K H x t/\W.kitOne K t cv=some b)\/∃ a C,x = .ref a/\H a=some (dQ a (.ref C))/\gi K C/\W.kitOne K (.ref C) cv=some b)
theorem x6:CallR X (.builtin "isinstance") (λ xs H Q=>∃ x c b,xs=[x,c]/\gP X.K H x c b/\Q (.bl b) H):=by
 intro pins s σ H xs us Q I rv h;obtain ⟨x,c,b,rfl,⟨cv,_,hcv,h1⟩,q⟩:=h;obtain ⟨u,w',rfl,rx,rc⟩:=iG rv;cases hcv _ rc;rcases h1 with ⟨t,ty,e⟩ | ⟨a,C,rfl,ha,k,e⟩
 ·exact zX I rx ty e λ tk=>⟨.bl b,H,I.tok tk,rfl,q⟩
 ·cases (show u=Value.ref a from rx);obtain ⟨⟨o,vs,h2,h3,h4⟩,_⟩:=(show ObjOk X.prog X.w H s.heap a (dQ a (.ref C)) from I.hok a _ ha)
  exact W.kia_one (zam k) I.kIn ⟨o,vs,h2,h3,h4⟩ e (λ z=>nomatch z) λ tk=>⟨.bl b,H,I.tok tk,rfl,q⟩
theorem qu:∀ bs:List Bool,(List.range bs.length).all (λ i=>bs.getD i false)=bs.all id
 | []=>rfl
 | b::bs=>by
  rw [List.length_cons,List.range_succ_eq_map,List.all_cons,List.all_map,List.all_cons,← qu bs];rfl
theorem qV(hc:X.calm=true):CallR X (.builtin "all") (λ xs H Q=>∃ (p:Addr) (bs:List Bool),xs=[.ref p]/\SqL X.K H p (bs.map V.bl)/\Q (.bl (bs.all id)) H):=by
 intro pins s σ H xs us Q I rv h;obtain ⟨p,bs,rfl,hq,q⟩:=h;obtain ⟨u,rfl,ru⟩:=db rv;cases ru;obtain ⟨its,r,pl,hz⟩:=I.list hq;have lt:p < s.heap.objs.size:=by
  obtain ⟨o,_,e,_⟩:=pl;exact Heap.lt_size e
 have hlen:bs.length=its.length:=by
  have:=r.length
  rwa [ag] at this
 refine call_all_walk (wpAny_pyIter_list pl.isList ?_);refine ⟨_,_,_,_,_,_,λ i=>bs.getD i false,rfl,Walks.list (A:=X.A.in1) (I.ok.hd hc) _ p (Nat.ne_of_lt lt) its.toArray,⟨⟨_,Heap.get?_push_size _ rfl,rfl,rfl⟩,pl.isList.push _⟩,?_,λ h' tk hk=>?_⟩
 ·intro i v s' Q' E' hv hQ;have hv:its[i]?=some v:=by simpa using hv
  have hi:i < bs.length:=by rw [hlen];exact (al_gs.mp hv).1
  obtain ⟨u,hu,ru⟩:=r.get (i:=i) (x:=V.bl bs[i]) (by simp [hi]);rw [hv] at hu;cases hu;cases (show v=Value.bool bs[i] from ru);have e:bs.getD i false=bs[i]:=by simp [List.getD,hi]
  have hQ:Q' (bs.getD i false) s':=hQ;rw [e] at hQ;exact aC hQ
 ·refine ⟨.bl (bs.all id),H,I.kept (t':=tk) λ b o e=>?_,?_,q⟩
  rotate_left
  ·show _=Value.bool _;rw [aW,← hlen,qu]
  ·exact hk b o (by simpa using Nat.ne_of_lt (Heap.lt_size e)) (aU _ e)
theorem ya(hc:X.calm=true):CallR X (.builtin "max") (λ xs H Q=>∃ (p:Addr) (ns:List Int) (M:Int),xs=[.ref p]/\SqL X.K H p (ns.map V.int)/\M∈ns/\(∀ a∈ns,a<=M)/\Q (.int M) H):=by
 intro pins s σ H xs us Q I rv h;obtain ⟨p,ns,M,rfl,hq,hM,hle,q⟩:=h;obtain ⟨u,rfl,ru⟩:=db rv;cases ru;obtain ⟨its,r,pl,hz⟩:=I.list hq;have hi:=j5 r;obtain ⟨ws,e⟩:=hi.allInts.items;have en:ns=ws.toList.map (·.1):=by
  have q1:=hi.numsOf;have q2:=nums_intItems ws;rw [← e] at q2;rw [← q1];exact q2
 have hne:0 < ws.size:=by
  have:ns.length=ws.size:=by rw [en,ag,Array.length_toList]
  rw [← this];exact List.length_pos_of_mem hM
 refine max_intList (I.ok.hd hc) (e ▸ pl.isList) hne λ v h' tk hv hk=>?_;obtain ⟨t,rfl⟩:=intItems_at hv;obtain ⟨h1,h2⟩:=argBest_gt (numAt ws) (ws.size - 1);have m1:numAt ws (argBest (λ i j=>decide (numAt ws i > numAt ws j)) (ws.size - 1))∈ns:=by
  rw [en,numAt_eq];exact getD_mem (by rw [ag,Array.length_toList];omega)
 have m2:∀ a∈ns,a<=numAt ws (argBest (λ i j=>decide (numAt ws i > numAt ws j)) (ws.size - 1)):=λ a ha=>by
  rw [en] at ha;obtain ⟨j,hj,rfl⟩:=mem_getD ha;rw [ag,Array.length_toList] at hj;rw [← numAt_eq];exact h2 j (by omega)
 have eM:numAt ws (argBest (λ i j=>decide (numAt ws i > numAt ws j)) (ws.size - 1))=M:=by
  have a1:=hle _ m1;have a2:=m2 _ hM;omega
 exact ⟨.int M,H,I.kept (t':=tk) hk,⟨t,by rw [eM]⟩,q⟩
theorem q8(hc:X.calm=true):CallR X (.builtin "min") (λ xs H Q=>∃ (p:Addr) (ns:List Int) (M:Int),xs=[.ref p]/\SqL X.K H p (ns.map V.int)/\M∈ns/\(∀ a∈ns,M<=a)/\Q (.int M) H):=by
 intro pins s σ H xs us Q I rv h;obtain ⟨p,ns,M,rfl,hq,hM,hle,q⟩:=h;obtain ⟨u,rfl,ru⟩:=db rv;cases ru;obtain ⟨its,r,pl,hz⟩:=I.list hq;have hi:=j5 r;obtain ⟨ws,e⟩:=hi.allInts.items;have en:ns=ws.toList.map (·.1):=by
  have q1:=hi.numsOf;have q2:=nums_intItems ws;rw [← e] at q2;rw [← q1];exact q2
 have hne:0 < ws.size:=by
  have:ns.length=ws.size:=by rw [en,ag,Array.length_toList]
  rw [← this];exact List.length_pos_of_mem hM
 refine min_intList (I.ok.hd hc) (e ▸ pl.isList) hne λ v h' tk hv hk=>?_;obtain ⟨t,rfl⟩:=intItems_at hv;obtain ⟨h1,h2⟩:=argBest_lt (numAt ws) (ws.size - 1);have m1:numAt ws (argBest (λ i j=>decide (numAt ws i < numAt ws j)) (ws.size - 1))∈ns:=by
  rw [en,numAt_eq];exact getD_mem (by rw [ag,Array.length_toList];omega)
 have m2:∀ a∈ns,numAt ws (argBest (λ i j=>decide (numAt ws i < numAt ws j)) (ws.size - 1))<=a:=λ a ha=>by
  rw [en] at ha;obtain ⟨j,hj,rfl⟩:=mem_getD ha;rw [ag,Array.length_toList] at hj;rw [← numAt_eq];exact h2 j (by omega)
 have eM:numAt ws (argBest (λ i j=>decide (numAt ws i < numAt ws j)) (ws.size - 1))=M:=by
  have a1:=hle _ m1;have a2:=m2 _ hM;omega
 exact ⟨.int M,H,I.kept (t':=tk) hk,⟨t,by rw [eM]⟩,q⟩
noncomputable def dY:List V->List V->Bool
 | [],[]=>true
 | x::xs,y::ys=>eqV x y && dY xs ys
 | _,_=>false
theorem rR:∀ {xs ys:List V},xs.length≠ys.length->dY xs ys=false
 | [],[],h=>absurd rfl h
 | [],_::_,_=>rfl
 | _::_,[],_=>rfl
 | x::xs,y::ys,h=>by
  unfold dY;rw [rR (by simpa using h),Bool.and_false]
theorem rS:∀ {xs ys:List V},xs.length=ys.length->(List.range xs.length).all (λ j=>eqV (xs.getD j .non) (ys.getD j .non))=dY xs ys
 | [],[],_=>rfl
 | x::xs,y::ys,h=>by
  have h':xs.length=ys.length:=by simpa using h
  rw [List.length_cons,List.range_succ_eq_map,List.all_cons,List.all_map];unfold dY;rw [← rS h'];rfl
 | [],_::_,h=>by simp at h
 | _::_,[],h=>by simp at h
theorem zdB(hu:X.A.units < cLine):OpR X (compareOp .Eq) (λ x y H Q=>∃ (p q:Addr) (xs ys:List V),x = .ref p/\y = .ref q/\SqL X.K H p xs/\SqL X.K H q ys/\xs.all cj=true/\ys.all cj=true/\Q (.bl (dY xs ys)) H):=by
 intro pins s σ H x y v u Q I rx ry h;obtain ⟨p,q,xs,ys,rfl,rfl,hp,hq,fx,fy,k⟩:=h;cases rx;cases ry;obtain ⟨its,r,pl,_⟩:=I.list hp;obtain ⟨its2,r2,pl2,_⟩:=I.list hq;have l1:=r.length;have l2:=r2.length;by_cases e:xs.length=ys.length
 ·refine SeqAt.eq_listAt (e:=λ j=>eqV (xs.getD j .non) (ys.getD j .non)) pl.isList pl2.isList (by rw [aW,aW];omega) hu (λ j h1 h2=>?_) ?_
  ·rw [aW] at h1 h2;obtain ⟨a,ha,ra⟩:=r.get (i:=j) (x:=xs[j]'(by omega)) (by simp);obtain ⟨b,hb,rb⟩:=r2.get (i:=j) (x:=ys[j]'(by omega)) (by simp);have ea:its.toArray[j]=a:=by
    have:its[j]?=some its[j]:=by simp
    rw [this] at ha;simpa using Option.some.inj ha
   have eb:its2.toArray[j]=b:=by
    have:its2[j]?=some its2[j]:=by simp
    rw [this] at hb;simpa using Option.some.inj hb
   rw [ea,eb];have g1:xs.getD j .non=xs[j]'(by omega):=by simp [List.getD,show j < xs.length by omega]
   have g2:ys.getD j .non=ys[j]'(by omega):=by simp [List.getD,show j < ys.length by omega]
   rw [g1,g2];exact rQ ra rb (List.all_eq_true.mp fx _ (List.getElem_mem _)) (List.all_eq_true.mp fy _ (List.getElem_mem _))
  ·refine ⟨.bl (dY xs ys),H,I,?_,k⟩;show _=Value.bool _;rw [aW,← l1,rS e]
 ·refine SeqAt.eq_list_lengthsAt pl.isList pl2.isList (by rw [aW,aW];simp;omega) hu ⟨.bl (dY xs ys),H,I,?_,k⟩;rw [rR e];rfl
theorem zbj:MtR X "list.count" (λ x vs H Q=>∃ (p:Addr) (xs:List V) (y:V),x = .ref p/\vs=[y]/\H p=some (.lst xs)/\xs.all cj=true/\cj y=true/\Q (.int (xs.countP λ z=>eqV z y)) H):=by
 intro pins s σ H x vs v us Q I rx rv h;obtain ⟨p,xs,y,rfl,rfl,hH,fx,fy,q⟩:=h;cases rx;obtain ⟨u,rfl,ru⟩:=rv.one;obtain ⟨z,its,n,r,hl,e⟩:=I.lstM hH;refine call_meets F.slot_list_count ⟨_,e,rfl⟩ F.entry_list_count (F.args_list_count_2 _ _) (SeqAt.list_countAt p its.toArray n none #[] u (eqU y)) ⟨e,λ w hw=>fY ru fy r fx w (by simpa using hw),?_⟩;refine ⟨.int (xs.countP λ z=>eqV z y),H,I.tok _,⟨s.toks,?_⟩,q⟩;have:∀ {xs:List V} {us:List Value},Vals xs us->xs.all cj=true->us.countP (eqU y)=xs.countP λ z=>eqV z y:=by
  intro xs us r;induction r with
  | nil=>intro _;rfl
  | @cons a b l1 l2 h t ih=>
   intro f;rw [List.all_cons,Bool.and_eq_true] at f;rw [List.countP_cons,List.countP_cons,ih f.2,iR h f.1]
 rw [show its.toArray.toList=its from rfl,this r fx]
theorem sW:MtR X "list.index" (λ x vs H Q=>∃ (p:Addr) (xs:List V) (y:V) (j:Nat),x = .ref p/\vs=[y]/\H p=some (.lst xs)/\xs.all cj=true/\cj y=true/\
  (∃ z,xs[j]?=some z/\eqV z y=true)/\(∀ m z,m < j->xs[m]?=some z->eqV z y=false)/\Q (.int j) H):=by
 intro pins s σ H x vs v us Q I rx rv h;obtain ⟨p,xs,y,j,rfl,rfl,hH,fx,fy,⟨z0,hz0,ez0⟩,hno,q⟩:=h;cases rx;obtain ⟨u,rfl,ru⟩:=rv.one;obtain ⟨z,its,n,r,hl,e⟩:=I.lstM hH;have hj:j < xs.length:=(al_gs.mp hz0).1;have val:∀ (m:Nat) (hm:m < its.length),∃ zz,xs[m]?=some zz/\eqU y its[m]=eqV zz y:=λ m hm=>by
  have hm':m < xs.length:=by omega
  obtain ⟨a,ha,ra⟩:=r.get (i:=m) (x:=xs[m]) (by simp [hm']);have:its[m]?=some its[m]:=by simp
  rw [this] at ha;cases ha;exact ⟨xs[m],by simp [hm'],iR ra (List.all_eq_true.mp fx _ (List.getElem_mem _))⟩
 refine call_meets F.slot_list_index ⟨_,e,rfl⟩ F.entry_list_index (F.args_list_index_2 _ _) (SeqAt.list_indexAt p its.toArray n none #[] u (eqU y) j (by rw [aW];omega) ?_ ?_ ?_) ⟨e,λ w hw=>fY ru fy r fx w (by simpa using hw),?_⟩
 ·have:=gv;have:(j:Int) < 2 ^ 62:=by
   have s1:sizeLine < 2 ^ 62:=by rw [sizeLine_eq];decide
   omega
  omega
 ·obtain ⟨zz,e1,e2⟩:=val j (by omega);rw [hz0] at e1;cases e1;simpa using e2.trans ez0
 ·intro m hm hlt;rw [aW] at hm;obtain ⟨zz,e1,e2⟩:=val m hm;simpa using e2.trans (hno m zz hlt e1)
 ·exact ⟨.int j,H,I.tok _,⟨_,rfl⟩,q⟩
theorem zgA(l:Addr)(items:Array Value)(n:Nat)(dd:Option Addr)(sl:Array (Option Value))(x:Value)(e:Value->Bool)(j:Nat)(hj:j < items.size)(hit:e items[j]=true)(hno:∀ m (hm:m < items.size),m < j->e items[m]=false):
  Meets (Builtin.«tuple.index» ⟨[.ref l,x],[]⟩)
   (λ A R s=>s.heap.get? l=some { cls:=.type "tuple", dict:=dd,data:=.seq items n,slots:=sl }/\(∀ y,y∈items->SeqAt.EqAt A.in1 s y x (e y))/\R (.ok (.ret (.int j s.toks))) { s with toks:=s.toks+1 }):=by
 intro prog w A R s h;obtain ⟨hp,g,d,tk,os⟩:=s;obtain ⟨hl,he,h⟩:=h;unfold Builtin.«tuple.index»;simp only [Std.Legacy.Range.forIn_eq_forIn_range']
 wp_walk using wpAny_loadPart' hl,wpAny_forIn_list _ (λ rest b s'=>b.1=none/\s'=⟨hp,g,d,tk,os⟩/\∃ i,i<=j/\rest=List.range' i (items.size - i)) _
 case turn=>
  rintro y rest b s' ⟨hb,rfl,i,hi,hr⟩;have hpos:i < items.size:=by omega
  rw [show items.size - i=(items.size - i - 1)+1 by omega,List.range'_succ] at hr;injection hr with h1 h2
  subst h1;have hg:items[y]?=some items[y]:=by simp [hpos]
  rw [hg];refine ah (he items[y] (Array.getElem_mem hpos) prog w _ _ ?_);by_cases hyj:y=j
  ·subst hyj;rw [hit]
   wp_walk
   exact h
  ·rw [hno y hpos (by omega)]
   wp_walk
   refine ⟨rfl,rfl,y+1,by omega,?_⟩;rw [h2];congr 1
 case fin=>
  rintro b s' ⟨_,rfl,i,hi,hr⟩;rw [show items.size - i=(items.size - i - 1)+1 by omega,List.range'_succ] at hr;cases hr
 case h=>
  exact ⟨rfl,rfl,0,Nat.zero_le _,by simp [Std.Legacy.Range.size]⟩
theorem sY:MtR X "tuple.index" (λ x vs H Q=>∃ (p:Addr) (xs:List V) (y:V) (j:Nat),x = .ref p/\vs=[y]/\SqT X.K H p xs/\xs.all cj=true/\cj y=true/\
  (∃ z,xs[j]?=some z/\eqV z y=true)/\(∀ m z,m < j->xs[m]?=some z->eqV z y=false)/\Q (.int j) H):=by
 intro pins s σ H x vs v us Q I rx rv h;obtain ⟨p,xs,y,j,rfl,rfl,hH,fx,fy,⟨z0,hz0,ez0⟩,hno,q⟩:=h;cases rx;obtain ⟨u,rfl,ru⟩:=rv.one;obtain ⟨its,r,⟨o,eo,hc,n,hd⟩,hz⟩:=I.tuple hH;obtain ⟨oc,od,da,sl⟩:=o;dsimp only at hc hd;subst hc hd;have hl:=r.length;have hj:j < xs.length:=(al_gs.mp hz0).1;have val:∀ (m:Nat) (hm:m < its.length),∃ zz,xs[m]?=some zz/\eqU y its[m]=eqV zz y:=λ m hm=>by
  have hm':m < xs.length:=by omega
  obtain ⟨a,ha,ra⟩:=r.get (i:=m) (x:=xs[m]) (by simp [hm']);have:its[m]?=some its[m]:=by simp
  rw [this] at ha;cases ha;exact ⟨xs[m],by simp [hm'],iR ra (List.all_eq_true.mp fx _ (List.getElem_mem _))⟩
 refine call_meets F.slot_tuple_index ⟨_,eo,rfl⟩ F.entry_tuple_index (F.args_tuple_index_2 _ _) (zgA p its.toArray n od sl u (eqU y) j (by rw [aW];omega) ?_ ?_) ⟨eo,λ w hw=>fY ru fy r fx w (by simpa using hw),?_⟩
 ·obtain ⟨zz,e1,e2⟩:=val j (by omega);rw [hz0] at e1;cases e1;simpa using e2.trans ez0
 ·intro m hm hlt;rw [aW] at hm;obtain ⟨zz,e1,e2⟩:=val m hm;simpa using e2.trans (hno m zz hlt e1)
 ·exact ⟨.int j,H,I.tok _,⟨_,rfl⟩,q⟩
theorem zbi:MtR X "int.bit_length" (λ x vs H Q=>∃ i:Int,x = .int i/\vs=[]/\Q (.int (Builtin.Int.intBits i)) H):=by
 intro pins s σ H x vs v us Q I rx rv h;obtain ⟨i,rfl,rfl,q⟩:=h;obtain ⟨t,rfl⟩:=rx;cases rv;exact call_gives F.slot_int_bit_length rfl F.entry_int_bit_length (F.args_int_bit_length_1 _) (PySem.AutoIntG2.int_bit_length_int_0 i t) ⟨.int _,H,I.tok _,⟨_,rfl⟩,q⟩
theorem bf{i:Int}(hm:∃ t,X.mg x=some (.int i t))(hg:Gl X x:=by rfl)(hd:(x == ("__debug__" : Str))=false:=by decide):PE X (.Name x pos) (tC (.int i)):=by
 obtain ⟨t,e⟩:=hm;exact tU hg e ⟨t,rfl⟩ hd
theorem di(hm:X.mg x=some (.ref a))(hg:Gl X x:=by rfl)(hd:(x == ("__debug__" : Str))=false:=by decide):PE X (.Name x pos) (tC (.ref a)):=
 tU hg hm rfl hd
theorem ix{n:String}(hm:X.mg x=none)(hv:bootBuiltins x=some (.type n))(hg:Gl X x:=by rfl)(hn:x ≠ "__name__" := by decide)(hd:(x == ("__debug__" : Str))=false:=by decide):PE X (.Name x pos) (tC (.ty n)):=
 zdO hg hm hv rfl hn hd
theorem iW{x:V}{T:String}{t:Value}{b:Bool}(ty:dq K H x t)(e:W.kitOne K t (.type T)=some b):gP K H x (.ty T) b:=
 ⟨.type T,rfl,λ _ r=>r,.inl ⟨t,ty,e⟩⟩
theorem zV{D:Addr}{b:Bool}(h:H a=some (dQ a (.ref C)))(k:gi K C)(e:W.kitOne K (.ref C) (.ref D)=some b):gP K H (.ref a) (.ref D) b:=
 ⟨.ref D,rfl,λ _ r=>r,.inr ⟨a,C,rfl,h,k,e⟩⟩
theorem zW{T:String}{b:Bool}(h:H a=some (dQ a (.ref C)))(k:gi K C)(e:W.kitOne K (.ref C) (.type T)=some b):gP K H (.ref a) (.ty T) b:=
 ⟨.type T,rfl,λ _ r=>r,.inr ⟨a,C,rfl,h,k,e⟩⟩
noncomputable def CW(n:Nat)(Pv:Nat->List V->Hp->Prop)(i m:Nat)(acc:List V)(H:Hp):Prop:=m=n - i/\i<=n/\Pv i acc H
theorem cw{Pv:Nat->List V->Hp->Prop}(hi:i < n)(h:Pv (i+1) acc H):∃ m',m' < n - i/\CW n Pv (i+1) m' acc H:=⟨n - (i+1),by omega,rfl,hi,h⟩
theorem cB{fr:List (Option Nat)}(Pv:Nat->List V->Hp->Prop)(h0:Pv 0 [] H)(hl:∀ i acc H,i<=xs.length->Pv i acc H->SqL K H a xs/\acc.length<=i)(hz:xs.length<=sizeLine)(hs:∀ i x acc H,xs[i]?=some x->i < xs.length->Pv i acc H->g x (stC fr σ) H λ σ2 H2=>Wk (stC fr σ) σ2/\tc σ2 H2 λ b H3=>
   if b=true then te σ2 H3 λ y H4=>∃ m',m' < xs.length - i/\CW xs.length Pv (i+1) m' (acc++[y]) H4 else ∃ m',m' < xs.length - i/\CW xs.length Pv (i+1) m' acc H3)(hd:∀ acc H,Pv xs.length acc H->Qe acc H):
  ∃ W:Nat->Nat->List V->Hp->Prop,(∃ m,W 0 m [] H)/\∀ i m acc H,W i m acc H->
   ((Itl K a).stop i H/\Qe acc H)\/
   ((Itl K a).go i H/\acc.length < sizeLine/\∀ x H',(Itl K a).yld i H x H'->g x (stC fr σ) H' λ σ2 H2=>Wk (stC fr σ) σ2/\tc σ2 H2 λ b H3=>
    if b=true then te σ2 H3 λ y H4=>∃ m',m' < m/\W (i+1) m' (acc++[y]) H4 else ∃ m',m' < m/\W (i+1) m' acc H3):=by
 refine ⟨CW xs.length Pv,⟨xs.length,by simp,Nat.zero_le _,h0⟩,?_⟩;rintro i m acc H ⟨rfl,hi,p⟩;obtain ⟨q,ql⟩:=hl i acc H hi p;by_cases hlt:i < xs.length
 ·refine .inr ⟨⟨xs,xs[i],q,by simp [hlt]⟩,by omega,λ x H' y=>?_⟩;obtain ⟨e,y⟩:=y;subst e;exact hs i x acc _ (y xs q) hlt p
 ·have e:i=xs.length:=by omega
  subst e;exact .inl ⟨⟨xs,q,Nat.le_refl _⟩,hd acc H p⟩
theorem lW{fr:List (Option Nat)}(Pv:Nat->List V->Hp->Prop)(h0:Pv 0 [] H)(hl:∀ i acc H,i<=xs.length->Pv i acc H->SqT K H a xs/\acc.length<=i)(hz:xs.length<=sizeLine)(hs:∀ i x acc H,xs[i]?=some x->i < xs.length->Pv i acc H->g x (stC fr σ) H λ σ2 H2=>Wk (stC fr σ) σ2/\tc σ2 H2 λ b H3=>
   if b=true then te σ2 H3 λ y H4=>∃ m',m' < xs.length - i/\CW xs.length Pv (i+1) m' (acc++[y]) H4 else ∃ m',m' < xs.length - i/\CW xs.length Pv (i+1) m' acc H3)(hd:∀ acc H,Pv xs.length acc H->Qe acc H):
  ∃ W:Nat->Nat->List V->Hp->Prop,(∃ m,W 0 m [] H)/\∀ i m acc H,W i m acc H->
   ((Itt K a).stop i H/\Qe acc H)\/
   ((Itt K a).go i H/\acc.length < sizeLine/\∀ x H',(Itt K a).yld i H x H'->g x (stC fr σ) H' λ σ2 H2=>Wk (stC fr σ) σ2/\tc σ2 H2 λ b H3=>
    if b=true then te σ2 H3 λ y H4=>∃ m',m' < m/\W (i+1) m' (acc++[y]) H4 else ∃ m',m' < m/\W (i+1) m' acc H3):=by
 refine ⟨CW xs.length Pv,⟨xs.length,by simp,Nat.zero_le _,h0⟩,?_⟩;rintro i m acc H ⟨rfl,hi,p⟩;obtain ⟨q,ql⟩:=hl i acc H hi p;by_cases hlt:i < xs.length
 ·refine .inr ⟨⟨xs,xs[i],q,by simp [hlt]⟩,by omega,λ x H' y=>?_⟩;obtain ⟨e,y⟩:=y;subst e;exact hs i x acc _ (y xs q) hlt p
 ·have e:i=xs.length:=by omega
  subst e;exact .inl ⟨⟨xs,q,Nat.le_refl _⟩,hd acc H p⟩
theorem gq{fr:List (Option Nat)}(Pv:Nat->List V->Hp->Prop)(h0:Pv 0 [] H)(hl:∀ i acc H,i<=n->Pv i acc H->acc.length<=i)(hz:n<=sizeLine)(hs:∀ i acc H,i < n->Pv i acc H->g (.int (lo+i)) (stC fr σ) H λ σ2 H2=>Wk (stC fr σ) σ2/\tc σ2 H2 λ b H3=>
   if b=true then te σ2 H3 λ y H4=>∃ m',m' < n - i/\CW n Pv (i+1) m' (acc++[y]) H4 else ∃ m',m' < n - i/\CW n Pv (i+1) m' acc H3)(hd:∀ acc H,Pv n acc H->Qe acc H):
  ∃ W:Nat->Nat->List V->Hp->Prop,(∃ m,W 0 m [] H)/\∀ i m acc H,W i m acc H->
   ((Itr lo n).stop i H/\Qe acc H)\/
   ((Itr lo n).go i H/\acc.length < sizeLine/\∀ x H',(Itr lo n).yld i H x H'->g x (stC fr σ) H' λ σ2 H2=>Wk (stC fr σ) σ2/\tc σ2 H2 λ b H3=>
    if b=true then te σ2 H3 λ y H4=>∃ m',m' < m/\W (i+1) m' (acc++[y]) H4 else ∃ m',m' < m/\W (i+1) m' acc H3):=by
 refine ⟨CW n Pv,⟨n,by simp,Nat.zero_le _,h0⟩,?_⟩;rintro i m acc H ⟨rfl,hi,p⟩;have ql:=hl i acc H hi p;by_cases hlt:i < n
 ·refine .inr ⟨hlt,by omega,λ x H' y=>?_⟩;obtain ⟨e,y⟩:=y;subst e y;exact hs i acc _ hlt p
 ·have e:i=n:=by omega
  subst e;exact .inl ⟨Nat.le_refl _,hd acc H p⟩
theorem tT{A B:Hp->Prop}(h:A H):kI σ H (λ b H3=>if b=true then A H3 else B H3):=by
 have e:(if true=true then A H else B H)=A H:=if_pos rfl;show if true=true then A H else B H
 rw [e];exact h
theorem Fun.okX{f:Addr}{k:Nat}(F:Fun K x qual st f fd)(S:aA N ps (av st))(len:∀ vs H Q E,sp vs H Q E->vs.length=ps.length)(hbody:∀ (cdv:Value) (A:Around) (outer:List Env) (s:Shared) (H:Hp) (vs:List V) (Q:VK) (E:XK),Room k (A.deeper (envOfC qual (av st) s.heap.objs.size f cdv))->sp vs H Q E->
   ∃ t,PSs (cI (CXr P w) P w K mg base N qual (av st) f cdv A outer s H E) (cu st) t/\t { nx:=λ _ H'=>Q .non H',rt:=Q } (fb N vs) H):FnOk P w K mg base (CXr P w) (k+1) f fd ps sp:=by
 obtain ⟨oc,od,kV,doc,pm,an,cdv,ct,osl,rfl,lk,hcd⟩:=F.ex;exact ma lk hcd S len λ A outer s H vs Q E hr hsp=>hbody cdv A outer s H vs Q E hr hsp
theorem az{p:Addr}(h:Same H H')(hp:H' p=none):Same H (upd H' p o):=λ b u e=>by
 rw [ai (aK (h b u e) hp)];exact h b u e
noncomputable def Cal(P:Program)(w:World)(K:W.Frag)(mg:Str->Option Value)(base:Heap)(CX:CXT)(k:Nat)(x:Str)(ps:List Str)(sp:Sp):Prop:=
 ∃ f fd,FnOk P w K mg base CX k f fd ps sp/\mg x=some (.ref f)/\W.keepIn K (.ref f)=true/\Binds K fd ps []
theorem Cal.pe{k:Nat}{E:XK}{t:TA}(C:Cal X.prog X.w X.K X.mg X.base CX k x ps sp)(hr:Room j X.A)(hx:cz CX X E)(ha:PA X (e::es) t)(hj:k<=j:=by decide)(hg:Gl X x:=by rfl)(hdb:(x == ("__debug__" : Str))=false:=by decide)(he:starEach (e::es) X.env=(false,eval e X.env)::starEach es X.env:=by rfl)(hpl:(backTo pos (starEach es X.env)).any (·.1)=false:=by rfl):
  PE X (.Call (.Name x p) (e::es) [] pos) (pN sp [] E t):=by
 obtain ⟨f,fd,G,hm,hk,hb⟩:=C;exact zdQ G (hr.mono hj) hg hm hk hb .nil hx ha hdb he hpl
noncomputable def bB(P:Program)(w:World)(K:W.Frag)(mg:Str->Option Value)(base:Heap)(CX:CXT)(k:Nat)(C:Addr)(m:Str)(ps:List Str)(sp:Sp):Prop:=
 ∃ f fd,FnOk P w K mg base CX k f fd ps sp/\gQ K C m f/\Binds K fd ps []
noncomputable def iJ(P:Program)(w:World)(K:W.Frag)(mg:Str->Option Value)(base:Heap)(CX:CXT)(k:Nat)(C:Addr)(ps:List Str)(sp:Sp):Prop:=
 ∃ f fd,FnOk P w K mg base CX k f fd ps sp/\Mk K C f/\Binds K fd ps []
section
variable {a:Expr}
noncomputable def vN(K:W.Frag)(ta:TE):TT:=λ σ H Q=>ta σ H λ x H'=>∃ p xs,x = .ref p/\SqL K H' p xs/\Q (!xs.isEmpty) H'
theorem zel(ha:PE X a ta)(he:∀ whole,isTrue a X.env whole=(do let v ← whole;standAt a.pos;holding [v] (truthy v)):=by intro _;rfl):PT X a (vN X.K ta):=by
 intro pins s σ H Q I h;exact isTrue_plain (thn (ha pins s σ H _ I h) λ v s1 ⟨x,H1,I1,r1,p,xs,e,hq,q1⟩=>by
  subst e;exact vW pins s1 σ H1 (.ref p) v Q I1 r1 ⟨_,.inl ⟨xs,hq,rfl⟩,q1⟩) (he _)
structure Bx (p:Prop):Prop where
 go:p
inductive vI (t u:TS):eJ->St->Hp->Prop
 | mk {D:eJ} {σ:St} {H:Hp} (M:St->Hp->Prop) (h:t { D with nx:=M } σ H) (k:∀ σ' H',M σ' H'->u D σ' H'):vI t u D σ H
theorem ud{rest:List Stmt}{t u:TS}(h1:PS X st t)(h2:PSs X rest u):PSs X (st::rest) (vI t u):=by
 intro pins s σ H D I h;obtain ⟨M,h,k⟩:=h;refine wpAny_execs_cons (thn (h1 pins s σ H { D with nx:=M } I h) λ f s1 q=>?_);cases f with
 | next=>
  obtain ⟨σ',H',I',q⟩:=q;exact h2 pins s1 σ' H' D I' (k _ _ q)
 | ret v=>exact q
 | brk=>exact q
 | cont=>exact q
structure qo (c:TT) (tb:TS) (D:eJ) (σ:St) (H:Hp):Prop where
 go:vP c tb D σ H
theorem km{c:Expr}(hp:PassesOwn (model X.prog X.w) X.A X.env X.xe)(hc:PT X c tc)(hb:PSs X body tb):PS X (.While c body [] pos) (qo tc tb):=
 λ pins s σ H D I h=>zei hp hc hb pins s σ H D I h.go
noncomputable def wiM(wi:TI):TI:=λ σ H R=>∃ R':It->Hp->Prop,wi σ H R'/\∀ J H1,R' J H1->R J H1
theorem PI.mono(h:PI X tg iter wi):PI X tg iter (wiM wi):=by
 intro pins s σ H R I q;obtain ⟨R',q,k⟩:=q;exact thn (h pins s σ H R' I q) λ v s1 q1=>thn q1 λ itv s2 ⟨it,fp,tn,J,H2,e,I2,T,st2,f2,r2⟩=>⟨it,fp,tn,J,H2,e,I2,T,st2,f2,k _ _ r2⟩
structure wU (J:It) (g:TG) (tb:TS) (D:eJ) (σ:St) (H1:Hp):Prop where
 go:∃ W:Nat->Nat->St->Hp->Prop,(∃ m,W 0 m σ H1)/\∀ i m σ H,W i m σ H->
  (J.stop i H/\D.nx σ H)\/(J.go i H/\∃ N:St->Hp->Prop,(∀ σ' H',N σ' H'->∃ m',m' < m/\W (i+1) m' σ' H')/\∀ x H',J.yld i H x H'->g x σ H' λ σ2 H2=>tb { D with nx:=N,ct:=N,bk:=D.nx } σ2 H2)
noncomputable def zgc(wi:TI)(g:TG)(tb:TS):TS:=λ D σ H=>wi σ H λ J H1=>wU J g tb D σ H1
theorem fK(hp:PassesOwn (model X.prog X.w) X.A X.env X.xe)(hc:X.calm=true)(hi:PI X tg iter wi)(hg:PG X tg g)(hb:PSs X body tb)(hs:∀ x,foldedSetIterable iter X.env x=pure x:=by intro _;rfl):PS X (.For tg iter body [] pos) (zgc wi g tb):=
 λ pins s σ H D I h=>uc hp hc hi.mono hg hb hs pins s σ H D I ⟨_,h,λ _ _ q=>q.go⟩
structure jE (fr:List (Option Nat)) (J:It) (g:TG) (tc:TT) (te:TE) (σ:St) (H1:Hp) (Q:VK):Prop where
  go:∃ W:Nat->Nat->List V->Hp->Prop,(∃ m,W 0 m [] H1)/\∀ i m acc H,W i m acc H->
    (J.stop i H/\∀ p,H p=none->Q (.ref p) (upd H p (.lst acc)))\/
    (J.go i H/\acc.length < sizeLine/\∀ x H',J.yld i H x H'->g x (stC fr σ) H' λ σ2 H2=>Wk (stC fr σ) σ2/\tc σ2 H2 λ b H3=>
       if b=true then te σ2 H3 λ y H4=>∃ m',m' < m/\W (i+1) m' (acc++[y]) H4 else ∃ m',m' < m/\W (i+1) m' acc H3)
noncomputable def vH(fr:List (Option Nat))(wi:TI)(g:TG)(tc:TT)(te:TE):TE:=λ σ H Q=>wi σ H λ J H1=>jE fr J g tc te σ H1 Q
theorem bX{fr:List (Option Nat)}(S:CompScope X N scope fr)(hc:X.calm=true)(hi:PI X tg iter wi)(hb:∀ C fp s H,PG (a7 X N scope C fp s H) tg g/\ff (a7 X N scope C fp s H) ifs tc/\PE (a7 X N scope C fp s H) elt te)(hs:∀ x,foldedSetIterable iter X.env x=pure x:=by intro _;rfl):
  PE X (.ListComp elt [⟨tg,iter,ifs,0⟩] scope pos) (vH fr wi g tc te):=
 λ pins s σ H Q I h=>kf S hc hi.mono hb hs pins s σ H Q I ⟨_,h,λ _ _ q=>q.go⟩
theorem gz{fr:List (Option Nat)}(hN:X.N.Nodup)(hi':X.N[i]?=some y)(hx:Loc X.env.scope y)(S:CompScope X N scope fr)(hc:X.calm=true)(hi:PI X tg iter wi)(hb:∀ C fp s H,PG (a7 X N scope C fp s H) tg g/\ff (a7 X N scope C fp s H) ifs tc/\PE (a7 X N scope C fp s H) elt te)(hsw:swapsWith (.ListComp elt [⟨tg,iter,ifs,0⟩] scope pos) (some (.Name y py)) spos.line X.env=pure true:=by rfl)(hf:X.fn y=true\/X.env.scope.names.lookup y=some .local:=by first | exact .inl rfl | exact .inr rfl | assumption)(hs:∀ x,foldedSetIterable iter X.env x=pure x:=by intro _;rfl):
  PS X (.Assign [.Name y py] (.ListComp elt [⟨tg,iter,ifs,0⟩] scope pos) spos) (gF (vH fr wi g tc te) (dC i)):=
 λ pins s σ H D I h=>zef hN hi' hx S hc hi.mono hb hsw hf hs pins s σ H D I ⟨_,h,λ _ _ q=>q.go⟩
theorem kM{c:TT}(Pv:St->Hp->Prop)(μ:St->Hp->Nat)(h0:Pv σ H)(hs:∀ m σ H,m=μ σ H->Pv σ H->c σ H λ b H1=>if b=true then ∃ N:St->Hp->Prop,(∀ σ' H',N σ' H'->∃ m',m' < m/\(m'=μ σ' H'/\Pv σ' H'))/\tb { D with nx:=N,ct:=N,bk:=D.nx } σ H1 else D.nx σ H1):qo c tb D σ H:=
 ⟨λ m σ H=>m=μ σ H/\Pv σ H,⟨_,rfl,h0⟩,λ m σ H ⟨e,p⟩=>hs m σ H e p⟩
theorem wN{Pv:St->Hp->Prop}{μ:St->Hp->Nat}{m:Nat}:∀ σ' H',(Pv σ' H'/\μ σ' H' < m)->∃ m',m' < m/\(m'=μ σ' H'/\Pv σ' H'):=λ _ _ h=>⟨_,h.2,rfl,h.1⟩
theorem bW{xs:List α}{i:Int}{v:α}(h0:0<=i)(h:xs[i.toNat]?=some v):atI xs i=some v:=by
 have:=dG h
 rwa [Int.toNat_of_nonneg h0] at this
theorem Same.new{p:Addr}(hp:H p=none):Same H (upd H p o):=az (Same.refl H) hp
end
noncomputable def zex(K:W.Frag):List V->Hp->VK->Prop:=λ xs H Q=>∃ p ys,xs=[.ref p]/\(SqL K H p ys\/SqT K H p ys)/\Q (.int ys.length) H
noncomputable def zew(K:W.Frag):List V->Hp->VK->Prop:=λ xs H Q=>∃ x c b,xs=[x,c]/\gP K H x c b/\Q (.bl b) H
noncomputable def zer(K:W.Frag):List V->Hp->VK->Prop:=λ xs H Q=>∃ (p:Addr) (bs:List Bool),xs=[.ref p]/\SqL K H p (bs.map V.bl)/\Q (.bl (bs.all id)) H
noncomputable def zeA(K:W.Frag):List V->Hp->VK->Prop:=λ xs H Q=>∃ (p:Addr) (ns:List Int) (M:Int),xs=[.ref p]/\SqL K H p (ns.map V.int)/\M∈ns/\(∀ a∈ns,a<=M)/\Q (.int M) H
noncomputable def zeC(K:W.Frag):List V->Hp->VK->Prop:=λ xs H Q=>∃ (p:Addr) (ns:List Int) (M:Int),xs=[.ref p]/\SqL K H p (ns.map V.int)/\M∈ns/\(∀ a∈ns,M<=a)/\Q (.int M) H
noncomputable def zet(K:W.Frag):R2:=λ x y H Q=>∃ (p q:Addr) (xs ys:List V),x = .ref p/\y = .ref q/\SqL K H p xs/\SqL K H q ys/\xs.all cj=true/\ys.all cj=true/\Q (.bl (dY xs ys)) H
noncomputable def zeH(K:W.Frag):V->List V->Hp->VK->Prop:=λ x vs H Q=>∃ (p:Addr) (xs:List V) (y:V) (j:Nat),x = .ref p/\vs=[y]/\SqT K H p xs/\xs.all cj=true/\cj y=true/\
  (∃ z,xs[j]?=some z/\eqV z y=true)/\(∀ m z,m < j->xs[m]?=some z->eqV z y=false)/\Q (.int j) H
section
variable (K:W.Frag) {a:Expr}
theorem bK(h:X.K=K:=by rfl):IxR X (uj K):=h ▸ sD
theorem bL(h:X.K=K:=by rfl):IxR X (uk K):=h ▸ sE
theorem jm(h:X.K=K:=by rfl):SlR X (ur K):=h ▸ zfF
theorem gc(h:X.K=K:=by rfl):SlR X (ut K):=h ▸ zfG
theorem ja(h:X.K=K:=by rfl):OpR X (compareOp .In) (rIn K false):=h ▸ zdD
theorem zdC(hu:X.A.units+1 < cLine)(h:X.K=K:=by rfl):OpR X (compareOp .Eq) (zet K):=by
 subst h;exact zdB (Nat.lt_of_succ_lt hu)
theorem cr(h:X.K=K:=by rfl):CallR X (.builtin "len") (zex K):=by subst h;exact qX
theorem dr(h:X.K=K:=by rfl):CallR X (.builtin "isinstance") (zew K):=by subst h;exact x6
theorem qW(hc:X.calm=true)(h:X.K=K:=by rfl):CallR X (.builtin "all") (zer K):=by subst h;exact qV hc
theorem q5(hc:X.calm=true)(h:X.K=K:=by rfl):CallR X (.builtin "max") (zeA K):=by subst h;exact ya hc
theorem re(hc:X.calm=true)(h:X.K=K:=by rfl):CallR X (.builtin "min") (zeC K):=by subst h;exact q8 hc
theorem zbl(h:X.K=K:=by rfl):MtR X "tuple.index" (zeH K):=by subst h;exact sY
theorem jf(ha:PE X a ta)(h:X.K=K:=by rfl)(he:∀ whole,isTrue a X.env whole=(do let v ← whole;standAt a.pos;holding [v] (truthy v)):=by intro _;rfl):PT X a (vN K ta):=by
 subst h;exact zel ha he
theorem eW{f:Str}(he:PE X e ta)(hb:attributeBase e f X.env (eval e X.env)=eval e X.env)(h:X.K=K:=by rfl):PE X (.Attribute e f pos) (fN K ta f):=by
 subst h;exact cn he hb
variable {o:Expr} {t:TA} {T id:String}
theorem cD(pa:PlainAttrs T)(slot:Slot T name id)(hty:typeOf (.builtin id)=pure (.type "method_descriptor"))(hm:MtR X id r)(ho:PE X o to)(ha:PA X (e::es) t)(h:X.K=K:=by rfl)(hbase:attributeBase o name X.env (eval o X.env)=eval o X.env:=by rfl)(hfew:((backTo cpos (starEach (e::es) X.env)).all (λ x=>!x.1) && (backToKw cpos (keywordEach [] X.env)).all (λ x=>x.1.isSome)
   && decide ((e::es).length+([]:List Keyword).length+(if ([]:List Keyword).isEmpty then 0 else 1) < 30))=true:=by rfl)(hline:(apos.endLine == cpos.line)=true:=by rfl)(hs:starEach (e::es) X.env=(false,eval e X.env)::starEach es X.env:=by rfl)(hplain:(backTo cpos (starEach es X.env)).any (·.1)=false:=by rfl):
  PE X (.Call (.Attribute o name apos) (e::es) [] cpos) (tBM K T r to t):=by
 subst h;exact mT pa slot hty hm ho ha hbase hfew hline hs hplain
end
theorem Inv.turnedL(I:Inv X pins σ H s)(k:∀ b o,b∉ch->s.heap.get? b=some o->h'.get? b=some o)(hf:∀ b∈ch,dR X pins H b):Inv X pins σ H { s with heap:=h',toks:=t' }:=by
 have nit:∀ b u,H b=some u->b∉ch:=λ b u e z=>by rw [(hf b z).1] at e;cases e
 refine I.step (g':=s.gens) (d':=s.drawn) (ch:=ch) (λ b hb=>?_) (λ b o _ _ hc e _=>k b o hc e) (λ b o _ _ hc e _=>⟨o.slots,k b o hc e⟩) (λ _ _ _ _ n=>n)
  (λ b o hc e=>⟨o,k b o hc e⟩) (λ _ _ e=>e) (λ _ _ _ e=>e) (λ b ps e=>⟨#[],by rw [e];simp⟩) (λ m hm=>?_) (λ b u e=>?_) I.bare
 ·obtain ⟨f0,f1,f2,f3,f4,f5⟩:=hf b hb;exact ⟨f3,f1,f4,f5⟩
 ·obtain ⟨o,es,ep,ho,r⟩:=hm;exact ⟨o,es,ep,k _ o (λ z=>(hf _ z).2.1 rfl) ho,r⟩
 ·refine (I.hok b u e).stay (λ c v hc q=>k c v ?_ q) (λ _ q=>q) λ _ _ q=>q;rcases hc with z | z
  ·rw [z];exact nit b u e
  ·exact nit c _ z
noncomputable def Itz(K:W.Frag)(a b:Addr):It:=
  ⟨λ i H=>∃ xs ys x y,SqL K H a xs/\SqL K H b ys/\xs[i]?=some x/\ys[i]?=some y,
   λ i H v H'=>∃ T,H T=none/\v = .ref T/\∀ xs ys,SqL K H a xs->SqL K H b ys->∃ x y,xs[i]?=some x/\ys[i]?=some y/\H'=upd H T (.tup [x,y]),
   λ i H=>∃ xs ys,SqL K H a xs/\SqL K H b ys/\(xs.length<=i\/ys.length<=i)⟩
theorem in5{e f:Addr}(h:c∈[a,b,d,e,f]):c=a\/c=b\/c=d\/c=e\/c=f:=by simpa using h
theorem vF{TI TO:Addr}(h:c∈[z,TO,i1,i2]):c∈[z,TI,TO,i1,i2]:=by cases h with | head=>exact .head _ | tail _ h=>exact .tail _ (.tail _ h)
theorem zgG{k:Nat}(a b z TI TO i1 i2:Addr)(D:ZipApart z TI TO i1 i2 a b):
  fQ P w K (.Tuple elts k pos) (Itz K a b) [z,TI,TO,i1,i2] z (λ i h=>IsZip h z TI TO .none/\IsPair h TI (.ref i1) (.ref i2)/\(∃ c d,IsPair h TO c d)/\h.IsListIter i1 a i/\h.IsListIter i2 b i) where
 mem:=by simp
 obj:=λ i h st c hc=>by
  obtain ⟨h1,h2,⟨_,_,h3⟩,⟨o1,e1,c1,d1⟩,⟨o2,e2,c2,d2⟩⟩:=st;rcases in5 hc with rfl | rfl | rfl | rfl | rfl
  ·exact ⟨_,h1,λ v z=>by cases z⟩
  ·exact ⟨_,h2,λ v z=>by cases z⟩
  ·exact ⟨_,h3,λ v z=>by cases z⟩
  ·exact ⟨o1,e1,λ v z=>by rw [d1] at z;cases z⟩
  ·exact ⟨o2,e2,λ v z=>by rw [d2] at z;cases z⟩
 keep:=λ i h h' st kk=>by
  obtain ⟨h1,h2,⟨c,d,h3⟩,h4,h5⟩:=st;exact ⟨kk z (.head _) _ h1,kk TI (.tail _ (.head _)) _ h2,⟨c,d,kk TO (.tail _ (.tail _ (.head _))) _ h3⟩,h4.at λ o e=>kk i1 (.tail _ (.tail _ (.tail _ (.head _)))) o e,h5.at λ o e=>kk i2 (.tail _ (.tail _ (.tail _ (.tail _ (.head _))))) o e⟩
 item:=by
  intro X hP hw hK hc i pins s σ H E I hf st hg;subst hP hw hK;obtain ⟨xs,ys,x,y,hqa,hqb,hx,hy⟩:=hg;obtain ⟨ia,ra,pa,_⟩:=I.list hqa;obtain ⟨ib,rb,pb,_⟩:=I.list hqb;obtain ⟨ux,hux,rux⟩:=ra.get hx;obtain ⟨uy,huy,ruy⟩:=rb.get hy;have hia:i < ia.length:=(al_gs.mp hux).1;have hib:i < ib.length:=(al_gs.mp huy).1;have W:=WalksT.zip2 (prog:=X.prog) (w:=X.w) (I.ok.hd hc) z TI TO i1 i2 a b D ia.toArray ib.toArray;obtain ⟨h1,h2,h3,h4,h5⟩:=id st;refine W.item i s _ _ (by rw [aW,aW];omega) ⟨h1,h2,h3,h4,h5,pa.isList,pb.isList⟩ λ T vals h' tk hP hT hTup hM hk=>?_;refine ⟨.ref T,rfl,W.go elts k pos i T { s with heap:=h',toks:=tk } _ _ hM λ h'' st' hk'=>?_⟩;obtain ⟨x',y',ex,ey,rfl⟩:=hP;have ex':ux=x':=by
   have:ia[i]?=some x':=by simpa using ex
   rw [hux] at this;exact Option.some.inj this
  have ey':uy=y':=by
   have:ib[i]?=some y':=by simpa using ey
   rw [huy] at this;exact Option.some.inj this
  subst ex' ey';have I1:Inv X pins σ H { s with heap:=h'',toks:=tk }:=I.turnedL (ch:=[z,TO,i1,i2]) (λ c o hc' e=>hk' c o hc' (hk c o hc' e)) λ c hc'=>hf c (vF hc');have hTn:H T=none:=I.hok.fresh hT;have hTup2:IsTup h'' T #[ux,uy]:=hTup.at λ o e=>hk' T o (W.apart i T _ hM) e;have ltT:∀ {c:Addr} {o:Obj},s.heap.get? c=some o->c≠T:=λ e=>Nat.ne_of_lt (Nat.lt_of_lt_of_le (Heap.lt_size e) hT);have I2:Inv X pins σ (upd H T (.tup [x,y])) { s with heap:=h'',toks:=tk }:=by
   refine I1.track hTn ?_ (λ e=>?_) (λ n c e q=>?_) (λ p hp e=>?_) ?_
   ·cases q:X.s₀.heap.get? T with
    | none=>rfl
    | some o=>exact absurd (Nat.lt_of_lt_of_le (Heap.lt_size q) (Nat.le_trans I.sz hT)) (Nat.lt_irrefl _)
   ·exact absurd (Nat.lt_of_lt_of_le I.lt hT) (by rw [e];exact Nat.lt_irrefl _)
   ·obtain ⟨v,o,ho,_⟩:=I.cell n c e;exact ltT ho q
   ·exact ltT (I.pin p hp).1 e
   ·exact ⟨by show 2<=sizeLine;decide,[ux,uy],.cons rux (.cons ruy .nil),hTup2⟩
  refine ⟨.ref T,_,I2,rfl,⟨T,hTn,rfl,λ xs' ys' qa qb=>?_⟩,⟨st'.1,st'.2.1,st'.2.2.1,st'.2.2.2.1,st'.2.2.2.2.1⟩,λ c hc'=>?_⟩
  ·rw [I.list_inj qa hqa,I.list_inj qb hqb];exact ⟨x,y,hx,hy,rfl⟩
  ·have:c≠T:=by
    obtain ⟨c1,d1,h3⟩:=h3;obtain ⟨o1,e1,_⟩:=h4;obtain ⟨o2,e2,_⟩:=h5;rcases in5 hc' with rfl | rfl | rfl | rfl | rfl
    ·exact ltT h1
    ·exact ltT h2
    ·exact ltT h3
    ·exact ltT e1
    ·exact ltT e2
   rw [ai this];exact (hf c hc').1
 done:=by
  intro X hP hw hK hc i pins s σ H E I hf st hg;subst hP hw hK;obtain ⟨xs,ys,hqa,hqb,hl⟩:=hg;obtain ⟨ia,ra,pa,_⟩:=I.list hqa;obtain ⟨ib,rb,pb,_⟩:=I.list hqb;obtain ⟨h1,h2,⟨c,d,h3⟩,h4,h5⟩:=id st;have l1:=ra.length;have l2:=rb.length;refine wpAny_pyNext_zip_end (I.ok.hd hc) D h1 h2 h3 h4 h5 pa.isList pb.isList ?_ λ h' hk=>⟨rfl,I.turnedL (t':=s.toks) (ch:=[z,TO,i1,i2]) (λ c o hc' e=>hk c o (λ q=>hc' (by simp [q])) (λ q=>hc' (by simp [q])) (λ q=>hc' (by simp [q])) (λ q=>hc' (by simp [q])) e) λ c hc'=>hf c (vF hc')⟩
  rcases hl with h | h
  ·exact .inl (by simp;omega)
  ·exact .inr (by simp;omega)
 self:=λ _ _ _ _ _ st h=>wpAny_pyIter_zip st.1 h
noncomputable def zK(K:W.Frag)(ta:TA):TI:=λ σ H R=>ta σ H λ vs H1=>∃ a b xs ys,vs=[.ref a,.ref b]/\SqL K H1 a xs/\SqL K H1 b ys/\R (Itz K a b) H1
theorem kh(K:W.Frag){k:Nat}{a b:Expr}{ta:TA}(hg:Gl X "zip")(hm:X.mg "zip" = none)(ha:PA X [a,b] ta)(hK:X.K=K:=by rfl)(hs:starEach [a,b] X.env=[(false,eval a X.env),(false,eval b X.env)]:=by rfl)(hs2:starEach [b] X.env=[(false,eval b X.env)]:=by rfl):
  PI X (.Tuple elts k tpos) (.Call (.Name "zip" p) [a,b] [] pos) (zK K ta):=by
 subst hK;intro pins s σ H R I h;refine Call_ (dJ I hg hm PyProof.Rows.Boot.«zip» (PyProof.Rows.callWith_type1 (thn (ha pos pins s σ H _ I h) λ us s1 ⟨vs,H1,I1,r1,q1⟩=>?_) (by rw [hs,hs2]) (by rw [hs2];rfl)));obtain ⟨a,b,xs,ys,e,qa,qb,q⟩:=q1;subst e;cases r1 with
 | cons r rr=>
  cases rr with
  | cons r' rr=>
   cases rr;cases r;cases r';obtain ⟨ia,ra,pa,_⟩:=I1.list qa;obtain ⟨ib,rb,pb,_⟩:=I1.list qb;have la:a < s1.heap.objs.size:=by obtain ⟨o,_,e,_⟩:=pa;exact Heap.lt_size e
   have lb:b < s1.heap.objs.size:=by obtain ⟨o,_,e,_⟩:=pb;exact Heap.lt_size e
   refine call_zip_2 pa.isList pb.isList λ h' z1 z2 z3 z4 z5 hsz hk=>?_;refine wpAny_pyIter_zip z1 ?_;refine ⟨s1.heap.objs.size+4,[s1.heap.objs.size+4,s1.heap.objs.size+2,s1.heap.objs.size+3,s1.heap.objs.size,s1.heap.objs.size+1],_,_,H1,rfl,I1.kept (t':=s1.toks) hk,zgG a b _ _ _ _ _ (zipApart_new la lb),⟨z1,z2,⟨_,_,z3⟩,z4,z5⟩,λ c hc=>?_,q⟩;have:s1.heap.objs.size<=c:=by
    simp only [al_mc,List.not_mem_nil,or_false] at hc;rcases hc with rfl | rfl | rfl | rfl | rfl <;> omega
   exact I1.fpOk this (I1.hok.fresh this)
theorem fG(K:W.Frag){k:Nat}{t:TGs}(hc:X.calm=true)(h:PGs X es t)(hK:X.K=K:=by rfl)(hn:(assignEach es X.env).length=n:=by rfl)(hst:(assignEach es X.env).findIdx? (·.1)=none:=by rfl):PG X (.Tuple es k pos) (mm K n t):=by
 subst hK;exact zd1 hc h hn hst
theorem lX{fr:List (Option Nat)}(Pv:Nat->List V->Hp->Prop)(h0:Pv 0 [] H)(n:Nat)(hn:n=min xs.length ys.length)(hl:∀ i acc H,i<=n->Pv i acc H->SqL K H a xs/\SqL K H b ys/\acc.length<=i)(hz:n<=sizeLine)(hs:∀ i x y acc H T,xs[i]?=some x->ys[i]?=some y->i < n->Pv i acc H->H T=none->g (.ref T) (stC fr σ) (upd H T (.tup [x,y])) λ σ2 H2=>Wk (stC fr σ) σ2/\tc σ2 H2 λ b H3=>
   if b=true then te σ2 H3 λ y H4=>∃ m',m' < n - i/\CW n Pv (i+1) m' (acc++[y]) H4 else ∃ m',m' < n - i/\CW n Pv (i+1) m' acc H3)(hd:∀ acc H,Pv n acc H->Qe acc H):
  ∃ W:Nat->Nat->List V->Hp->Prop,(∃ m,W 0 m [] H)/\∀ i m acc H,W i m acc H->
   ((Itz K a b).stop i H/\Qe acc H)\/
   ((Itz K a b).go i H/\acc.length < sizeLine/\∀ x H',(Itz K a b).yld i H x H'->g x (stC fr σ) H' λ σ2 H2=>Wk (stC fr σ) σ2/\tc σ2 H2 λ b H3=>
    if b=true then te σ2 H3 λ y H4=>∃ m',m' < m/\W (i+1) m' (acc++[y]) H4 else ∃ m',m' < m/\W (i+1) m' acc H3):=by
 refine ⟨CW n Pv,⟨n,by simp,Nat.zero_le _,h0⟩,?_⟩;rintro i m acc H ⟨rfl,hi,p⟩;obtain ⟨qa,qb,ql⟩:=hl i acc H hi p;by_cases hlt:i < n
 ·refine .inr ⟨⟨xs,ys,xs[i]'(by omega),ys[i]'(by omega),qa,qb,by simp,by simp⟩,by omega,λ v H' yy=>?_⟩;obtain ⟨T,hT,rfl,yy⟩:=yy;obtain ⟨x,y,hx,hy,rfl⟩:=yy xs ys qa qb;exact hs i x y acc _ T hx hy hlt p hT
 ·have e:i=n:=by omega
  subst e;exact .inl ⟨⟨xs,ys,qa,qb,by omega⟩,hd acc H p⟩
theorem PS.nox{t:TS}(h:PS X.nox st t):PS X st t:=λ pins s σ H D I hw=>
 wpAny_mono (h pins s σ H D (I.wish _) hw) (λ _ _ q=>q.unwish) λ _ _ z=>False.elim z
theorem cU    : cz (CXr P w) X E0:=λ _ _ _ _ _ _ _ ⟨_,_,_,_,_,_,_,_,_,_,_,_,_,h⟩=>h.elim
section
variable (K:W.Frag)
theorem zec:∀ (l:List Int) (f:Nat->Int),(∀ i,i < l.length->f i=l.getD i 0)->preSum f l.length=l.sum:=by
 intro l;have key:∀ (n:Nat),n<=l.length->∀ f:Nat->Int,(∀ i,i < l.length->f i=l.getD i 0)->preSum f n=(l.take n).sum:=by
  intro n;induction n with
  | zero=>intro _ f _;simp [preSum]
  | succ n ih=>
   intro h f hf;have hn:n < l.length:=by omega
   have et:l.take (n+1)=l.take n++[l[n]]:=by rw [List.take_add_one,aH hn];rfl
   have eg:l.getD n 0=l[n]:=by simp [List.getD,hn]
   rw [preSum,ih (by omega) f hf,hf n hn,eg,et,List.sum_append];simp
 intro f hf;have:=key l.length (Nat.le_refl _) f hf
 rwa [aX] at this
noncomputable def zeG(K:W.Frag):List V->Hp->VK->Prop:=λ xs H Q=>∃ (p:Addr) (ns:List Int),xs=[.ref p]/\SqL K H p (ns.map V.int)/\Q (.int ns.sum) H
theorem yd(hc:X.calm=true)(hK:X.K=K:=by rfl):CallR X (.builtin "sum") (zeG K):=by
 subst hK;intro pins s σ H xs us Q I rv h;obtain ⟨p,ns,rfl,hq,q⟩:=h;obtain ⟨u,rfl,ru⟩:=db rv;cases ru;obtain ⟨its,r,pl,hz⟩:=I.list hq;have hi:=j5 r;obtain ⟨ws,e⟩:=hi.allInts.items;have en:ns=ws.toList.map (·.1):=by
  have q1:=hi.numsOf;have q2:=nums_intItems ws;rw [← e] at q2;rw [← q1];exact q2
 have hlen:ns.length=ws.size:=by rw [en,ag,Array.length_toList]
 refine sum_intListG (I.ok.hd hc) (e ▸ pl.isList) λ h' tk t' hk=>?_;refine ⟨.int ns.sum,H,I.kept (t':=tk) hk,⟨t',?_⟩,q⟩;rw [← hlen,zec ns (numAt ws) λ i _=>by rw [en];exact numAt_eq _ _]
end
section
variable (K:W.Frag)
noncomputable def vM(K:W.Frag)(te:TE):TE:=λ σ H Q=>te σ H λ x H1=>∃ a xs,x = .ref a/\SqL K H1 a xs/\∀ p,H1 p=none->Q (.ref p) (upd H1 p (.lst xs.reverse))
theorem zhp{st:Expr}(he:PE X e te)(hst:PE X st (tUn (rU λ i=>.int (-i)) (tC (.int 1))))(hK:X.K=K:=by rfl):PE X (.Subscript e (.Slice none none (some st) p2) pos) (vM K te):=by
 subst hK;intro pins s σ H Q I h;refine Subscript_ (thn (he pins s σ H _ I h) λ v s1 ⟨x,H1,I1,r1,q1⟩=>?_);obtain ⟨a,xs,rfl,hq,q⟩:=q1;cases r1;refine wpAny_Slice ?_;rw [evalPart_none];refine aC (aC ?_);refine thn (cL hst pins s1 σ H1 (λ o H'=>o=some (-1)/\H'=H1) I1 ⟨1,rfl,-1,rfl,rfl,rfl⟩) λ u s3 ⟨o,H3,I3,pu,e1,e2⟩=>?_;subst e1 e2;have I4:Inv X pins σ H3 { s3 with heap:=s3.heap.push { cls:=.type "slice", data:=.fields #[.none,.none,u] } }:=I3.kept (t':=s3.toks) λ b ob q=>aU _ q;obtain ⟨its,r,ht,hz⟩:=I4.list hq;have hlen:=r.length;show wpAny (model X.prog X.w) X.A (subscriptTail e (.Slice none none (some st) p2) (.ref a) (.ref s3.heap.objs.size)) (EP X pins σ Q) X.xe { s3 with heap:=s3.heap.push { cls:=.type "slice", data:=.fields #[.none,.none,u] } };refine tail_any (ops:=[.ref a,.ref s3.heap.objs.size]) ht.isList.typeIs slot_list_getitem.lookup (wpAny_getItem_list_slice ht.isList (Heap.IsSliceOf.new ..) .none .none pu (by simp) ?_ (by rw [aW] <;> omega)) (by with_unfolding_all rfl);rw [W.krv_pick];refine ⟨.ref _,_,I4.laid (t':=s3.toks) (o:=.lst xs.reverse) (λ b ob q=>aU _ q) (Nat.le_refl _) ?_,rfl,q _ (I4.hok.fresh (Nat.le_refl _))⟩;refine ⟨by rw [List.length_reverse];exact hz,its.reverse,0,?_,Heap.get?_push_size _ rfl⟩;have rev:∀ {xs:List V} {us:List Value},Vals xs us->Vals xs.reverse us.reverse:=by
  intro xs us r;induction r with
  | nil=>exact .nil
  | cons h t ih=>rw [List.reverse_cons,List.reverse_cons];exact ih.append (.cons h .nil)
 exact rev r
end
theorem zb9:typeLookup (.type "list_reverseiterator") "__len__" = pure none:=by rw [typeLookup_type,builtinLookup_eq_fast];kernel_rfl
theorem zr:typeLookup (.type "list_reverseiterator") "__length_hint__" = pure (some (.builtin "list_reverseiterator.__length_hint__")):=by rw [typeLookup_type,builtinLookup_eq_fast];kernel_rfl
theorem yM{l:Addr}(hh:A.handled=none)(hst:s.heap.IsRevIter I l ((items.size:Int) - 1))(hl:s.heap.IsList l items)(hne:l≠I)(hn:items.size<=sizeLine)(S:Addr)(res:Value)(c₀:Nat)(hS:s.heap.get? S=some { cls:=.type "list", data:=.seq #[] c₀ })(hSI:S≠I)(hSl:S≠l)(hR:∀ h' tk acc' c',(∀ b o,b≠S->b≠I->s.heap.get? b=some o->h'.get? b=some o)->h'.get? S=some { cls:=.type "list", dict:=none,data:=.seq acc' c',slots:=#[] }->
   ItemsOf (λ i v=>items[items.size - 1 - i]?=some v) acc' items.size->R (.ok (.ret res)) { s with heap:=h',toks:=tk }):
  wpAny (model prog w) A.in1 (Builtin.List.listExtendWith (.ref S) (.ref I) res)
   (λ fin s'=>match fin with | .done f=>R (.ok f) s' | .again c'=>c'.quiet=true/\codeAny (model prog w) A c' R s') (λ e s'=>R (.error e) s') s:=by
 have W:=(Walks.listRev (prog:=prog) (w:=w) (A:=A.in1) hh I l hne items).toS;have st0:(0:Nat)<=items.size/\s.heap.IsRevIter I l ((items.size:Int) - 1 - ((0:Nat):Int))/\s.heap.IsList l items:=⟨Nat.zero_le _,by simpa using hst,hl⟩
 have hSf:S∉[I,l]:=by simp [hSI,hSl]
 have hT:s.TypeIs (.ref I) "list_reverseiterator" := hst.typeIs;unfold Builtin.List.listExtendWith;refine ah (wpAny_typeOf hT ?_);have h1:Builtin.List.listSameRef (.ref S) (.ref I)=false:=by simp [Builtin.List.listSameRef,hSI]
 have h2:(Value.type "list_reverseiterator" == Value.type "list")=false:=by decide
 have h3:(Value.type "list_reverseiterator" == Value.type "tuple")=false:=by decide
 simp only [h1,h2,h3,Bool.or_false,Bool.false_eq_true,if_false];refine ah (wpAny_pyIter_revIter hst ?_);refine ah (wpAny_holding ?_);unfold Builtin.List.listLengthHint;refine ah (wpAny_specialOf hT zb9 ?_);show wpAny _ A.in1 (specialOf (Value.ref I) (Str.ofString "__length_hint__") >>= _) _ _ _;refine ah (wpAny_specialOf hT zr ?_)
 (generalize hid:("list_reverseiterator.__length_hint__" : String)=id0;wp_delta;rw [show splitId id0=some ("list_reverseiterator", "__length_hint__") from by subst hid;decide +kernel];subst hid)
 refine ah (wpAny_isInstance (b:=true) hT (by rw [isSubtype_type];kernel_rfl) ?_);refine aC ?_;rw [if_neg (by decide)];refine aC ⟨plainId_quiet F.plain_extend_loop _,codeAny_extend_loopS W hn _ hSf _ items.size 0 _ _ _ rfl (Nat.zero_le _) st0 hS (ItemsOf.nil _) λ s' acc' c' hm hS' hacc=>?_⟩;rw [Moved.eq_with hm];refine hR s'.heap s'.toks acc' c' (λ b ob hb hbI e=>hm.heap b ob (λ hmem=>?_) e) hS' hacc;rcases al_mc.mp hmem with e' | hmem
 ·exact hb e'
 ·exact hbI (by simpa using hmem)
theorem x8{l:Addr}(hh:A.handled=none)(hst:s.heap.IsRevIter I l ((items.size:Int) - 1))(hl:s.heap.IsList l items)(hne:l≠I)(hn:items.size<=sizeLine)(hQ:∀ h' tk acc' c',(∀ b o,b≠I->s.heap.get? b=some o->h'.get? b=some o)->
   h'.get? s.heap.objs.size=some { cls:=.type "list", dict:=none,data:=.seq acc' c',slots:=#[] }->ItemsOf (λ i v=>items[items.size - 1 - i]?=some v) acc' items.size->Q (.ref s.heap.objs.size) { s with heap:=h',toks:=tk }):
  wpAny (model prog w) A (call (.type "list") [.ref I]) Q E s:=by
 refine callType_codes (Q₁:=λ obj s₁=>obj = .ref s.heap.objs.size/\s₁={ s with heap:=s.heap.push { cls:=.type "list", data:=.seq #[] } }) F.called_list (F.typeCall_list_1 _) F.entry_list_init
  (code_list_new _ ⟨rfl,rfl⟩) λ obj s₁ h₁=>?_
 obtain ⟨rfl,rfl⟩:=h₁;have hS:(s.heap.push { cls:=.type "list", data:=.seq #[] }).get? s.heap.objs.size=some { cls:=.type "list", data:=.seq #[] }:=Heap.get?_push_size _ rfl;have ltI:I < s.heap.objs.size:=by obtain ⟨o,e,_⟩:=hst;exact Heap.lt_size e
 have ltl:l < s.heap.objs.size:=by obtain ⟨o,e,_⟩:=hl;exact Heap.lt_size e
 refine ⟨⟨_,hS,rfl⟩,F.args_list_init_2 _ _,?_⟩;show wpAny _ _ (do let old ← Builtin.List.listItems (.ref s.heap.objs.size);Builtin.List.listUpdate (.ref s.heap.objs.size) (λ _=>#[]);letGo old.toList.reverse;Builtin.List.listExtendWith (.ref s.heap.objs.size) (.ref I) .none) _ _ _;refine ah ?_;unfold Builtin.List.listItems;refine ah (wpAny_seqItems hS rfl (aC ?_));show wpAny _ _ (updateSeq s.heap.objs.size (λ _=>#[]) >>= λ _=>letGo (#[]:Array Value).toList.reverse >>= λ _=>Builtin.List.listExtendWith (.ref s.heap.objs.size) (.ref I) .none) _ _ _;refine ah (wpAny_updateSeq hS rfl ?_);have hS₂:=Heap.get?_update_self (Obj.mapSeq (λ _=>(#[]:Array Value))) hS rfl;have oth:∀ b o,b≠s.heap.objs.size->s.heap.get? b=some o->((s.heap.push { cls:=.type "list", data:=.seq #[] }).update s.heap.objs.size (Obj.mapSeq (λ _=>(#[]:Array Value)))).get? b=some o:=
  λ b o hb e=>(Heap.get?_update_other _ _ (Ne.symm hb)).trans (aU _ e)
 refine ah (wpAny_letGo ?_);refine yM (A:=A.in1) hh (hst.at λ o e=>oth _ o (Nat.ne_of_lt ltI) e) (hl.at λ o e=>oth _ o (Nat.ne_of_lt ltl) e) hne hn _ .none _ hS₂ (Nat.ne_of_gt ltI) (Nat.ne_of_gt ltl) λ h' tk acc' c' hk hS' hacc=>?_;exact ⟨rfl,hQ h' tk acc' c' (λ b o hb e=>hk b o (Nat.ne_of_lt (Heap.lt_size e)) hb (oth b o (Nat.ne_of_lt (Heap.lt_size e)) e)) hS' hacc⟩
section
variable (K:W.Frag)
theorem Vals.rev:∀ {xs:List V} {us:List Value},Vals xs us->Vals xs.reverse us.reverse:=by
 intro xs us r;induction r with
 | nil=>exact .nil
 | cons h t ih=>rw [List.reverse_cons,List.reverse_cons];exact ih.append (.cons h .nil)
theorem z6{acc:Array Value}(h:ItemsOf (λ i v=>its.toArray[its.toArray.size - 1 - i]?=some v) acc its.toArray.size):acc=its.reverse.toArray:=by
 obtain ⟨h1,h2⟩:=h;apply Array.ext
 ·simp [h1]
 ·intro i a1 a2;have q:its.toArray[its.toArray.size - 1 - i]?=some acc[i]:=h2 i acc[i] (by simp [a1]);have hi:i < its.length:=by simpa using a2
  have e:its.toArray.size - 1 - i=its.length - 1 - i:=by simp
  rw [e] at q;have lt:its.length - 1 - i < its.length:=by omega
  simp [lt] at q;simp [q]
theorem zdY(hc:X.calm=true)(hg1:Gl X "list")(hm1:X.mg "list" = none)(hg2:Gl X "reversed")(hm2:X.mg "reversed" = none)(he:PE X e te)(hK:X.K=K:=by rfl)(hs:starEach [e] X.env=[(false,eval e X.env)]:=by rfl):
  PE X (.Call (.Name "list" p2) [.Call (.Name "reversed" p3) [e] [] p4] [] pos) (vM K te):=by
 subst hK;intro pins s σ H Q I h;refine wpAny_Call_Name_kw (dJ I hg1 hm1 PyProof.Rows.Boot.«list» ?_ (by decide) (by decide));refine PyProof.Rows.callWith_type1 (e:=.Call (.Name "reversed" p3) [e] [] p4) (rest:=[]) ?_ rfl rfl;show wpAny _ _ (spliced ((false,eval (.Call (.Name "reversed" p3) [e] [] p4) X.env)::backTo pos (starEach [] X.env))) _ _ s;refine Calls.spliced_cons ?_;refine wpAny_Call_Name_kw (dJ I hg2 hm2 PyProof.Rows.Boot.«reversed» ?_ (by decide) (by decide));refine PyProof.Rows.callWith_type1 (e:=e) (rest:=[]) ?_ (by rw [hs];rfl) rfl;rw [hs];show wpAny _ _ (spliced ((false,eval e X.env)::[])) _ _ s;refine Calls.spliced_cons (thn (he pins s σ H _ I h) λ u s1 ⟨x,H1,I1,r1,a,xs,e1,hq,q⟩=>Calls.spliced_nil ?_);subst e1;cases r1;obtain ⟨its,rv,pl,hz⟩:=I1.list hq;have hlen:=rv.length;have lt:a < s1.heap.objs.size:=by obtain ⟨o,_,e,_⟩:=pl;exact Heap.lt_size e
 refine call_reversed_list pl.isList ?_;refine Calls.spliced_nil ?_;have hst:(s1.heap.push (revObj a ((its.toArray.size:Int) - 1))).IsRevIter s1.heap.objs.size a ((its.toArray.size:Int) - 1):=⟨_,Heap.get?_push_size _ rfl,rfl,rfl⟩
 refine x8 (I.ok.hd hc) hst (pl.isList.push _) (Nat.ne_of_lt lt) (by rw [aW];omega) λ h' tk acc' c' hk hS' hacc=>?_;rw [z6 hacc] at hS';have keep:∀ b o,s1.heap.get? b=some o->h'.get? b=some o:=λ b o e=>hk b o (Nat.ne_of_lt (Heap.lt_size e)) (aU _ e);have hsz:s1.heap.objs.size<=(s1.heap.push (revObj a ((its.toArray.size:Int) - 1))).objs.size:=by rw [Heap.size_push];omega
 refine ⟨.ref _,_,I1.laid (t':=tk) (o:=.lst xs.reverse) keep hsz ⟨by rw [List.length_reverse];exact hz,its.reverse,c',rv.rev,hS'⟩,rfl,q _ (I1.hok.fresh hsz)⟩
end
noncomputable def ba(ys:List Str):Str:=⟨((ys.map λ y=>y.cps.toList).flatten).toArray⟩
theorem iB{a b:Str}(h:a.cps.toList=b.cps.toList):a=b:=by
 cases a;cases b;simp only [Str.mk.injEq];exact Array.toList_inj.mp h
theorem cZ(a b:Str):(a++b).cps.toList=a.cps.toList++b.cps.toList:=by
 show (a.cps++b.cps).toList=_;exact Array.toList_append
theorem wf:∀ {ys:List Str} {us:List Value},Vals (ys.map V.str) us->StrsAre us ys
 | [],_,.nil=>.nil
 | y::_,_,.cons r t=>by
  obtain ⟨k,rfl⟩:=(show ∃ t,_=Value.str y t from r)
  exact .cons y k (wf t)
section
variable (K:W.Frag)
theorem io(h:X.K=K:=by rfl):MtR X "str.join" (λ x vs H Q=>∃ (z:Str) (p:Addr) (ys:List Str),x = .str z/\vs=[.ref p]/\SqL K H p (ys.map V.str)/\(ys.map (·.length)).sum+ys.length * z.length<=16777216/\Q (.str (Txt.join z ys)) H):=by
 subst h;intro pins s σ H x vs v us Q I rx rv hh;obtain ⟨z,p,ys,rfl,rfl,hq,hz,q⟩:=hh;obtain ⟨t,rfl⟩:=rx;obtain ⟨u,rfl,ru⟩:=rv.one;cases ru;obtain ⟨its,r',pl,_⟩:=I.list hq;exact join_list pl.isList (by simpa using wf r') hz λ t' k=>⟨.str _,H,I.tok _,⟨_,rfl⟩,q⟩
end
theorem zb4:("" : Str).cps.toList=[]:=rfl
theorem join_nil':∀ ys:List Str,(Str.join "" ys).cps.toList=(ys.map λ y=>y.cps.toList).flatten
 | []=>rfl
 | [x]=>by simp [Str.join]
 | x::y::r=>by
  show ((x++("" : Str))++Str.join "" (y::r)).cps.toList=_;rw [cZ,cZ,join_nil' (y::r),zb4,List.append_nil];rfl
theorem ie(ys:List Str):Txt.join "" ys=ba ys:=by
 exact (StrLaws.glued_eq_join _ _).trans (iB (join_nil' ys))
theorem dZ(ys:List Str):(ba ys).cps.toList=(ys.map λ y=>y.cps.toList).flatten:=rfl
theorem eQ(ys:List Str):(ba ys).length=(ys.map (·.length)).sum:=by
 show (ba ys).cps.size=_;rw [← Array.length_toList,dZ,List.length_flatten,List.map_map];rfl
theorem zl(a b:List Str):ba (a++b)=ba a++ba b:=by
 apply iB;rw [cZ,dZ,dZ,dZ,aJ,List.flatten_append]
noncomputable def Itd(hi:Int)(n:Nat):It:=⟨λ i _=>i < n,λ i H x H'=>H'=H/\x = .int (hi - i),λ i _=>n<=i⟩
theorem zgB(it:Addr)(hi:Int)(n:Nat):fQ P w K tg (Itd hi n) [it] it (λ i h=>IsRangeIter h it (hi+(i:Nat) * (-1)) ((n:Int) - (i:Nat)) (-1)) where
 mem:=by simp
 obj:=λ i h st b hb=>by
  have e:b=it:=by simpa using hb
  subst e;exact ⟨_,st,λ v z=>by
   have z':Data.fields _=Data.cell v:=z;cases z'⟩
 keep:=λ i h h' st k=>k it (by simp) _ st
 item:=by
  intro X hP hw hK hc i pins s σ H E I hf st hg;subst hP hw hK;obtain ⟨f0,f1,f2,f3,f4,f5⟩:=hf it (by simp);have W:=Walks.range (prog:=X.prog) (w:=X.w) (I.ok.hd hc) it hi (-1) n;refine W.item i s _ _ hg st λ v h' tk hv st' kk=>?_;obtain ⟨t,rfl⟩:=hv;have I1:Inv X pins σ H { s with heap:=h',toks:=tk }:=I.turned (λ b o hb e=>kk b o (by simpa using hb) e) f0 f1 f3 f4 f5;refine ⟨_,rfl,j3 (s:={ s with heap:=h',toks:=tk }) (n := "range_iterator") st' rfl rfl (by decide) ⟨.int (hi - i),H,I1,⟨t,?_⟩,⟨rfl,rfl⟩,st',λ b hb=>(hf b hb).1⟩⟩;have e:hi+(i:Int) * -1=hi - i:=by omega
  rw [e]
 done:=by
  intro X hP hw hK hc i pins s σ H E I hf st hg;subst hP hw hK;obtain ⟨f0,f1,f2,f3,f4,f5⟩:=hf it (by simp);exact wpAny_pyNext_range_end (I.ok.hd hc) st (by have:n<=i:=hg;omega) λ h' eb=>⟨rfl,I.turned (t':=s.toks) (λ b o hb e=>eb b o hb e) f0 f1 f3 f4 f5⟩
 self:=λ _ _ _ _ _ st h=>wpAny_pyIter_rangeiter st h
theorem uw(a b:Int):Builtin.Range.rangeSize a b (-1)=if b < a then a - b else 0:=by
 unfold Builtin.Range.rangeSize;rw [if_neg (by omega)]
 split <;> simp <;> omega
theorem zfL{a b:Int}(ha : -(2 ^ 62)<=a)(ha':a < 2 ^ 62)(hb : -(2 ^ 62)<=b)(hb':b < 2 ^ 62):Builtin.Range.small a b (-1)=true:=by
 unfold Builtin.Range.small;rw [uw];simp only [Builtin.Range.rangeFitsLong,Bool.and_eq_true,Bool.or_eq_true,decide_eq_true_eq,beq_iff_eq,show ¬ ((-1:Int) > 0) by decide,if_false]
 split <;> omega
noncomputable def zI(ta:TA):TI:=λ σ H R=>ta σ H λ vs H1=>∃ i j:Int,vs=[.int i,.int j,.int (-1)]/\(-(2 ^ 61)<=i/\i < 2 ^ 61/\-(2 ^ 61)<=j/\j < 2 ^ 61)/\R (Itd i (i - j).toNat) H1
theorem yG{R:It->Hp->Prop}{hi:Int}{t u v:Tok}(I:Inv X pins σ H s)(h1 : -(2 ^ 62)<=hi)(h2:hi < 2 ^ 62)(h3 : -(2 ^ 62)<=lo)(h4:lo < 2 ^ 62)(q:R (Itd hi (hi - lo).toNat) H):wpAny (model X.prog X.w) X.A (pyIter (.ref s.heap.objs.size)) (PIE X pins σ tg R) E { s with heap:=s.heap.push { cls:=.type "range", data:=.fields #[.int hi t,.int lo u,.int (-1) v] },toks:=tk }:=by
 refine wpAny_pyIter_range (IsRange.new ..) (zfL h1 h2 h3 h4) ?_;have I1:Inv X pins σ H { s with heap:=s.heap.push { cls:=.type "range", data:=.fields #[.int hi t,.int lo u,.int (-1) v] },toks:=tk }:=I.kept λ b o e=>aU _ e;refine ⟨(s.heap.push { cls:=.type "range", data:=.fields #[.int hi t,.int lo u,.int (-1) v] }).objs.size,[(s.heap.push { cls:=.type "range", data:=.fields #[.int hi t,.int lo u,.int (-1) v] }).objs.size],_,_,H,rfl,
  I1.kept (t':=tk) λ b o e=>aU _ e,zgB _ hi (hi - lo).toNat,?_,λ b hb=>?_,q⟩
 ·have e1:hi+((0:Nat):Int) * (-1)=hi:=by simp
  have e2:(((hi - lo).toNat:Nat):Int) - ((0:Nat):Int)=Builtin.Range.rangeSize hi lo (-1):=by rw [uw];split <;> omega
  show IsRangeIter _ _ (hi+((0:Nat):Int) * (-1)) ((((hi - lo).toNat:Nat):Int) - ((0:Nat):Int)) (-1);rw [e1,e2];exact Heap.get?_push_size _ rfl
 ·have e:b=(s.heap.push { cls:=.type "range", data:=.fields #[.int hi t,.int lo u,.int (-1) v] }).objs.size:=by simpa using hb
  subst e;exact I1.fpOk (Nat.le_refl _) (I1.hok.fresh (Nat.le_refl _))
theorem zd4{a b c:Expr}{ta:TA}(hg:Gl X "range")(hm:X.mg "range" = none)(ha:PA X [a,b,c] ta)(hs:starEach [a,b,c] X.env=[(false,eval a X.env),(false,eval b X.env),(false,eval c X.env)]:=by rfl)(hs2:starEach [b,c] X.env=[(false,eval b X.env),(false,eval c X.env)]:=by rfl):PI X tg (.Call (.Name "range" p) [a,b,c] [] pos) (zI ta):=by
 intro pins s σ H R I h;refine Call_ (dJ I hg hm boot_range (PyProof.Rows.callWith_type1 (thn (ha pos pins s σ H _ I h) λ us s1 ⟨vs,H1,I1,r1,q1⟩=>?_) (by rw [hs,hs2]) (by rw [hs2];rfl)));obtain ⟨i,j,e,⟨q1,q2,q3,q4⟩,q⟩:=q1;subst e;cases r1 with
 | cons r rr=>
  cases rr with
  | cons r' rr=>
   cases rr with
   | cons r'' rr=>
    cases rr;obtain ⟨t,rfl⟩:=r;obtain ⟨t',rfl⟩:=r';obtain ⟨t'',rfl⟩:=r'';exact call_range_3 (by decide) (yG I1 (by omega) (by omega) (by omega) (by omega) q) (Or.inl (PyProof.noPylong_small (by omega)))
theorem ym{fr:List (Option Nat)}(Pv:Nat->List V->Hp->Prop)(h0:Pv 0 [] H)(hl:∀ i acc H,i<=n->Pv i acc H->acc.length<=i)(hz:n<=sizeLine)(hs:∀ i acc H,i < n->Pv i acc H->g (.int (lo - i)) (stC fr σ) H λ σ2 H2=>Wk (stC fr σ) σ2/\tc σ2 H2 λ b H3=>
   if b=true then te σ2 H3 λ y H4=>∃ m',m' < n - i/\CW n Pv (i+1) m' (acc++[y]) H4 else ∃ m',m' < n - i/\CW n Pv (i+1) m' acc H3)(hd:∀ acc H,Pv n acc H->Qe acc H):
  ∃ W:Nat->Nat->List V->Hp->Prop,(∃ m,W 0 m [] H)/\∀ i m acc H,W i m acc H->
   ((Itd lo n).stop i H/\Qe acc H)\/
   ((Itd lo n).go i H/\acc.length < sizeLine/\∀ x H',(Itd lo n).yld i H x H'->g x (stC fr σ) H' λ σ2 H2=>Wk (stC fr σ) σ2/\tc σ2 H2 λ b H3=>
    if b=true then te σ2 H3 λ y H4=>∃ m',m' < m/\W (i+1) m' (acc++[y]) H4 else ∃ m',m' < m/\W (i+1) m' acc H3):=by
 refine ⟨CW n Pv,⟨n,by simp,Nat.zero_le _,h0⟩,?_⟩;rintro i m acc H ⟨rfl,hi,p⟩;have ql:=hl i acc H hi p;by_cases hlt:i < n
 ·refine .inr ⟨hlt,by omega,λ x H' y=>?_⟩;obtain ⟨e,y⟩:=y;subst e y;exact hs i acc _ hlt p
 ·have e:i=n:=by omega
  subst e;exact .inl ⟨Nat.le_refl _,hd acc H p⟩
noncomputable def zgn(K:W.Frag)(ta:TE):TT:=λ σ H Q=>ta σ H λ x H'=>∃ k,lH K x H' k/\Q k H'
theorem zen(K:W.Frag){a:Expr}(ha:PE X a ta)(h:X.K=K:=by rfl)(he:∀ whole,isTrue a X.env whole=(do let v ← whole;standAt a.pos;holding [v] (truthy v)):=by intro _;rfl):PT X a (zgn K ta):=by
 subst h;exact zem ha he
section
open PySem.W
noncomputable def eR(xs:Array Value)(c:Nat):Obj:={ cls:=.type "list", dict:=none,data:=.seq xs c,slots:=#[] }
noncomputable def Kp(wr:List Addr)(S:Addr)(h h':Heap):Prop:=∀ b o,b∉wr->b≠S->h.get? b=some o->h'.get? b=some o
section
variable {P:Nat->Value->Prop} {St:Nat->Heap->Prop}
theorem za5(W:Walks prog w A.in1 I fp wr n P St)(cm:CmpOf prog w A.in1 .Gt P bt)(away:S∉fp):∀ (k j:Nat) (s:Shared) (vb:Value) (c:Nat),n=j+1+k->St (j+1) s.heap->P (argBest bt j) vb->s.heap.get? S=some (eR #[vb,vb] c)->
  (∀ v h' tk,P (argBest bt (n - 1)) v->Kp wr S s.heap h'->R (.ok (.ret v)) { s with heap:=h',toks:=tk })->codeAny (model prog w) A (.builtin "max.loop" ⟨[.ref I,.none,.ref S],kw⟩) R s:=by
 have awr:S∉wr:=λ z=>away (W.sub _ z);have nm:(toString "max" ++ toString ".loop" : String) = "max.loop" := by decide
 intro k;induction k with
 | zero=>
  intro j s vb c hn st pb gS goal;refine codeAny_builtin F.entry_max_loop ?_;rw [Around.under_plainId F.plain_max_loop _];show wpAny _ A.in1 (Bind.bind (seqItems? (.ref S)) _) _ _ s;refine ah (wpAny_seqItems gS rfl ?_);show wpAny _ A.in1 (Bind.bind (tryCatch (pyNext (.ref I)) _) _) _ _ s;refine ah (wpAny_tryCatch (W.done s _ _ (by rw [hn];exact st) λ h' tk kp=>?_));have gS':=kp S _ awr gS;show wpAny _ A.in1 (Bind.bind (updateSeq S (λ _=>#[])) _) _ _ _;refine ah (wpAny_updateSeq gS' rfl (ah (wpAny_letGo (aC ?_))));exact goal vb _ tk (by rw [hn];exact pb) λ b o nb nS e=>(Heap.get?_update_other _ _ (Ne.symm nS)).trans (kp b o nb e)
 | succ k ih=>
  intro j s vb c hn st pb gS goal;refine codeAny_builtin F.entry_max_loop ?_;rw [Around.under_plainId F.plain_max_loop _];show wpAny _ A.in1 (Bind.bind (seqItems? (.ref S)) _) _ _ s;refine ah (wpAny_seqItems gS rfl ?_);show wpAny _ A.in1 (Bind.bind (tryCatch (pyNext (.ref I)) _) _) _ _ s;refine ah (wpAny_tryCatch (W.item (j+1) s _ _ (by omega) st λ v h' tk pv st' kp=>?_));have gS':=kp S _ awr gS;show wpAny _ A.in1 (Bind.bind (tryCatch (holding [v,v] (Bind.bind (richCompare .Gt v vb) _)) _) _) _ _ _;refine ah (wpAny_tryCatch (wpAny_holding (ah (cm (j+1) (argBest bt j) v vb _ _ _ pv pb ?_))));refine ah (wpAny_holding (wpAny_truthy_bool (ah (wpAny_letGo (aC ?_)))));cases hb:bt (j+1) (argBest bt j) with
  | true=>
   simp only [if_true];refine ah (wpAny_updateSeq gS' rfl (ah (wpAny_letGo ?_)));rw [nm];have stU:=W.frame _ _ (Heap.update h' S (Obj.mapSeq λ _=>#[v,v])) st' λ b nb o e=>(Heap.get?_update_other h' _ (show S≠b from λ z=>away (z ▸ nb))).trans e;have pU:P (argBest bt (j+1)) v:=by simp only [argBest,hb,if_true];exact pv
   exact aC ⟨plainId_quiet F.plain_max_loop _,ih (j+1) _ v _ (by omega) stU pU (Heap.get?_update_self _ gS' rfl) λ v' h2 tk2 p' kp2=>goal v' h2 tk2 p' λ b o nb nS e=>kp2 b o nb nS ((Heap.get?_update_other _ _ (Ne.symm nS)).trans (kp b o nb e))⟩
  | false=>
   simp only [Bool.false_eq_true,if_false];refine ah (wpAny_letGo ?_);rw [nm];have pU:P (argBest bt (j+1)) vb:=by simp only [argBest,hb,Bool.false_eq_true,if_false];exact pb
   exact aC ⟨plainId_quiet F.plain_max_loop _,ih (j+1) _ vb c (by omega) st' pU gS' λ v' h2 tk2 p' kp2=>goal v' h2 tk2 p' λ b o nb nS e=>kp2 b o nb nS (kp b o nb e)⟩
theorem za4(W:Walks prog w A.in1 I fp wr n P St)(cm:CmpOf prog w A.in1 .Gt P bt)(away:S∉fp)(pos:0 < n){c:Nat}(st:St 0 s.heap)(gS:s.heap.get? S=some (eR #[] c))(goal:∀ v h' tk,P (argBest bt (n - 1)) v->Kp wr S s.heap h'->R (.ok (.ret v)) { s with heap:=h',toks:=tk }):codeAny (model prog w) A (.builtin "max.loop" ⟨[.ref I,.none,.ref S],kw⟩) R s:=by
 have awr:S∉wr:=λ z=>away (W.sub _ z);have nm:(toString "max" ++ toString ".loop" : String) = "max.loop" := by decide
 refine codeAny_builtin F.entry_max_loop ?_;rw [Around.under_plainId F.plain_max_loop _];show wpAny _ A.in1 (Bind.bind (seqItems? (.ref S)) _) _ _ s;refine ah (wpAny_seqItems gS rfl ?_);show wpAny _ A.in1 (Bind.bind (tryCatch (pyNext (.ref I)) _) _) _ _ s;refine ah (wpAny_tryCatch (W.item 0 s _ _ pos st λ v h' tk pv st' kp=>?_));have gS':=kp S _ awr gS;show wpAny _ A.in1 (Bind.bind (updateSeq S (λ _=>#[v,v])) _) _ _ _;refine ah (wpAny_updateSeq gS' rfl ?_);rw [nm];have stU:=W.frame _ _ (Heap.update h' S (Obj.mapSeq λ _=>#[v,v])) st' λ b nb o e=>(Heap.get?_update_other h' _ (show S≠b from λ z=>away (z ▸ nb))).trans e;exact aC ⟨plainId_quiet F.plain_max_loop _,za5 W cm away (n - 1) 0 _ v _ (by omega) stU pv (Heap.get?_update_self _ gS' rfl) λ v' h2 tk2 p' kp2=>goal v' h2 tk2 p' λ b o nb nS e=>kp2 b o nb nS ((Heap.get?_update_other _ _ (Ne.symm nS)).trans (kp b o nb e))⟩
theorem za6(W:Walks prog w A.in1 I fp wr 0 P St)(away:S∉fp){c:Nat}{k:Str}{d:Value}(st:St 0 s.heap)(gS:s.heap.get? S=some (eR #[] c))(goal:∀ h' tk,Kp wr S s.heap h'->R (.ok (.ret d)) { s with heap:=h',toks:=tk }):codeAny (model prog w) A (.builtin "max.loop" ⟨[.ref I,.none,.ref S],[(k,d)]⟩) R s:=by
 refine codeAny_builtin F.entry_max_loop ?_;rw [Around.under_plainId F.plain_max_loop _];show wpAny _ A.in1 (Bind.bind (seqItems? (.ref S)) _) _ _ s;refine ah (wpAny_seqItems gS rfl ?_);show wpAny _ A.in1 (Bind.bind (tryCatch (pyNext (.ref I)) _) _) _ _ s;refine ah (wpAny_tryCatch (W.done s _ _ st λ h' tk kp=>?_));refine ah (wpAny_rule ?_);exact aC (goal h' tk λ b o nb _ e=>kp b o nb e)
end
section
variable {l:Addr} {xs:Array (Int × Tok)} {d:Value}
theorem za3(a d:Value):argsOk "max" ⟨[a],[(Str.ofString "default", d)]⟩:=by (unfold argsOk);kernel_rfl
theorem za2(hh:A.handled=none)(hl:s.heap.IsList l (intItems xs))(one:∀ v h' tk,0 < xs.size->(intItems xs)[argBest (λ i j=>decide (numAt xs i > numAt xs j)) (xs.size - 1)]?=some v->(∀ b o,s.heap.get? b=some o->h'.get? b=some o)->Q v { s with heap:=h',toks:=tk })(none_:∀ h' tk,xs.size=0->(∀ b o,s.heap.get? b=some o->h'.get? b=some o)->Q d { s with heap:=h',toks:=tk }):
  wpAny (model prog w) A (call (.builtin "max") [.ref l] [(Str.ofString "default", d)]) Q E s:=by
 have nm:(toString "max" ++ toString ".loop" : String) = "max.loop" := by decide
 have size:(intItems xs).size=xs.size:=by simp [intItems]
 refine kmk_tree F.kind_max F.plain_max F.entry_max (za3 _ _) ?_;show wpAny _ A.in1 (Bind.bind (Builtin.Builtins.bindParams "max" ["key", "default"] 0 ⟨[],[(Str.ofString "default", d)]⟩) _) _ _ s;refine ah (wpAny_of_eq (show Builtin.Builtins.bindParams "max" ["key", "default"] 0 ⟨[],[(Str.ofString "default", d)]⟩=pure [none,some d] from rfl) (ah (aC (ah (iter_intList hl λ s₂ e st low ne=>?_)))));subst e;refine ah (wpAny_newList ?_ (Nat.zero_le _));rw [nm];have W:=Walks.list (prog:=prog) (w:=w) (A:=A.in1) hh s.heap.objs.size l ne (intItems xs);have away:(s.heap.push { cls:=.type "list_iterator", data:=.fields #[.ref l,.int 0 0] }).objs.size∉[s.heap.objs.size,l]:=λ z=>Nat.lt_irrefl _ (low _ z);have old:∀ {h':Heap},Kp [s.heap.objs.size] (s.heap.push { cls:=.type "list_iterator", data:=.fields #[.ref l,.int 0 0] }).objs.size ((s.heap.push { cls:=.type "list_iterator", data:=.fields #[.ref l,.int 0 0] }).push (eR #[] 0)) h'->
   ∀ b o,s.heap.get? b=some o->h'.get? b=some o:=λ kp b o e=>by
  have lt:=Heap.lt_size e;refine kp b o (by simpa using Nat.ne_of_lt lt) (λ z=>?_) (aU _ (aU _ e));rw [z,Heap.size_push] at lt;exact absurd (Nat.lt_trans (Nat.lt_succ_self _) lt) (Nat.lt_irrefl _)
 have st2:=W.frame 0 _ ((s.heap.push { cls:=.type "list_iterator", data:=.fields #[.ref l,.int 0 0] }).push (eR #[] 0)) st λ b _ o e=>aU _ e;refine aC ⟨plainId_quiet F.plain_max_loop _,?_⟩;by_cases pos:0 < xs.size
 ·exact za4 W (CmpOf.ints_gt (numAt xs) (λ _ _=>intItems_at)) away (by rw [size];exact pos) st2 (Heap.get?_push_size _ rfl) λ v h' tk p kp=>one v h' tk pos (by rw [size] at p;exact p) (old kp)
 ·have e0:xs.size=0:=by omega
  rw [size,e0] at W;exact za6 W away st2 (Heap.get?_push_size _ rfl) λ h' tk kp=>none_ h' tk e0 (old kp)
end
section
variable {P:Nat->Value->Prop} {St:Nat->Heap->Prop}
theorem zbd(W:Walks prog w A.in1 I fp wr n P St)(cm:CmpOf prog w A.in1 .Lt P bt)(away:S∉fp):∀ (k j:Nat) (s:Shared) (vb:Value) (c:Nat),n=j+1+k->St (j+1) s.heap->P (argBest bt j) vb->s.heap.get? S=some (eR #[vb,vb] c)->
  (∀ v h' tk,P (argBest bt (n - 1)) v->Kp wr S s.heap h'->R (.ok (.ret v)) { s with heap:=h',toks:=tk })->codeAny (model prog w) A (.builtin "min.loop" ⟨[.ref I,.none,.ref S],kw⟩) R s:=by
 have awr:S∉wr:=λ z=>away (W.sub _ z);have nm:(toString "min" ++ toString ".loop" : String) = "min.loop" := by decide
 intro k;induction k with
 | zero=>
  intro j s vb c hn st pb gS goal;refine codeAny_builtin F.entry_min_loop ?_;rw [Around.under_plainId F.plain_min_loop _];show wpAny _ A.in1 (Bind.bind (seqItems? (.ref S)) _) _ _ s;refine ah (wpAny_seqItems gS rfl ?_);show wpAny _ A.in1 (Bind.bind (tryCatch (pyNext (.ref I)) _) _) _ _ s;refine ah (wpAny_tryCatch (W.done s _ _ (by rw [hn];exact st) λ h' tk kp=>?_));have gS':=kp S _ awr gS;show wpAny _ A.in1 (Bind.bind (updateSeq S (λ _=>#[])) _) _ _ _;refine ah (wpAny_updateSeq gS' rfl (ah (wpAny_letGo (aC ?_))));exact goal vb _ tk (by rw [hn];exact pb) λ b o nb nS e=>(Heap.get?_update_other _ _ (Ne.symm nS)).trans (kp b o nb e)
 | succ k ih=>
  intro j s vb c hn st pb gS goal;refine codeAny_builtin F.entry_min_loop ?_;rw [Around.under_plainId F.plain_min_loop _];show wpAny _ A.in1 (Bind.bind (seqItems? (.ref S)) _) _ _ s;refine ah (wpAny_seqItems gS rfl ?_);show wpAny _ A.in1 (Bind.bind (tryCatch (pyNext (.ref I)) _) _) _ _ s;refine ah (wpAny_tryCatch (W.item (j+1) s _ _ (by omega) st λ v h' tk pv st' kp=>?_));have gS':=kp S _ awr gS;show wpAny _ A.in1 (Bind.bind (tryCatch (holding [v,v] (Bind.bind (richCompare .Lt v vb) _)) _) _) _ _ _;refine ah (wpAny_tryCatch (wpAny_holding (ah (cm (j+1) (argBest bt j) v vb _ _ _ pv pb ?_))));refine ah (wpAny_holding (wpAny_truthy_bool (ah (wpAny_letGo (aC ?_)))));cases hb:bt (j+1) (argBest bt j) with
  | true=>
   simp only [if_true];refine ah (wpAny_updateSeq gS' rfl (ah (wpAny_letGo ?_)));rw [nm];have stU:=W.frame _ _ (Heap.update h' S (Obj.mapSeq λ _=>#[v,v])) st' λ b nb o e=>(Heap.get?_update_other h' _ (show S≠b from λ z=>away (z ▸ nb))).trans e;have pU:P (argBest bt (j+1)) v:=by simp only [argBest,hb,if_true];exact pv
   exact aC ⟨plainId_quiet F.plain_min_loop _,ih (j+1) _ v _ (by omega) stU pU (Heap.get?_update_self _ gS' rfl) λ v' h2 tk2 p' kp2=>goal v' h2 tk2 p' λ b o nb nS e=>kp2 b o nb nS ((Heap.get?_update_other _ _ (Ne.symm nS)).trans (kp b o nb e))⟩
  | false=>
   simp only [Bool.false_eq_true,if_false];refine ah (wpAny_letGo ?_);rw [nm];have pU:P (argBest bt (j+1)) vb:=by simp only [argBest,hb,Bool.false_eq_true,if_false];exact pb
   exact aC ⟨plainId_quiet F.plain_min_loop _,ih (j+1) _ vb c (by omega) st' pU gS' λ v' h2 tk2 p' kp2=>goal v' h2 tk2 p' λ b o nb nS e=>kp2 b o nb nS (kp b o nb e)⟩
theorem zbc(W:Walks prog w A.in1 I fp wr n P St)(cm:CmpOf prog w A.in1 .Lt P bt)(away:S∉fp)(pos:0 < n){c:Nat}(st:St 0 s.heap)(gS:s.heap.get? S=some (eR #[] c))(goal:∀ v h' tk,P (argBest bt (n - 1)) v->Kp wr S s.heap h'->R (.ok (.ret v)) { s with heap:=h',toks:=tk }):codeAny (model prog w) A (.builtin "min.loop" ⟨[.ref I,.none,.ref S],kw⟩) R s:=by
 have awr:S∉wr:=λ z=>away (W.sub _ z);have nm:(toString "min" ++ toString ".loop" : String) = "min.loop" := by decide
 refine codeAny_builtin F.entry_min_loop ?_;rw [Around.under_plainId F.plain_min_loop _];show wpAny _ A.in1 (Bind.bind (seqItems? (.ref S)) _) _ _ s;refine ah (wpAny_seqItems gS rfl ?_);show wpAny _ A.in1 (Bind.bind (tryCatch (pyNext (.ref I)) _) _) _ _ s;refine ah (wpAny_tryCatch (W.item 0 s _ _ pos st λ v h' tk pv st' kp=>?_));have gS':=kp S _ awr gS;show wpAny _ A.in1 (Bind.bind (updateSeq S (λ _=>#[v,v])) _) _ _ _;refine ah (wpAny_updateSeq gS' rfl ?_);rw [nm];have stU:=W.frame _ _ (Heap.update h' S (Obj.mapSeq λ _=>#[v,v])) st' λ b nb o e=>(Heap.get?_update_other h' _ (show S≠b from λ z=>away (z ▸ nb))).trans e;exact aC ⟨plainId_quiet F.plain_min_loop _,zbd W cm away (n - 1) 0 _ v _ (by omega) stU pv (Heap.get?_update_self _ gS' rfl) λ v' h2 tk2 p' kp2=>goal v' h2 tk2 p' λ b o nb nS e=>kp2 b o nb nS ((Heap.get?_update_other _ _ (Ne.symm nS)).trans (kp b o nb e))⟩
theorem zbe(W:Walks prog w A.in1 I fp wr 0 P St)(away:S∉fp){c:Nat}{k:Str}{d:Value}(st:St 0 s.heap)(gS:s.heap.get? S=some (eR #[] c))(goal:∀ h' tk,Kp wr S s.heap h'->R (.ok (.ret d)) { s with heap:=h',toks:=tk }):codeAny (model prog w) A (.builtin "min.loop" ⟨[.ref I,.none,.ref S],[(k,d)]⟩) R s:=by
 refine codeAny_builtin F.entry_min_loop ?_;rw [Around.under_plainId F.plain_min_loop _];show wpAny _ A.in1 (Bind.bind (seqItems? (.ref S)) _) _ _ s;refine ah (wpAny_seqItems gS rfl ?_);show wpAny _ A.in1 (Bind.bind (tryCatch (pyNext (.ref I)) _) _) _ _ s;refine ah (wpAny_tryCatch (W.done s _ _ st λ h' tk kp=>?_));refine ah (wpAny_rule ?_);exact aC (goal h' tk λ b o nb _ e=>kp b o nb e)
end
section
variable {l:Addr} {xs:Array (Int × Tok)} {d:Value}
theorem zbb(a d:Value):argsOk "min" ⟨[a],[(Str.ofString "default", d)]⟩:=by (unfold argsOk);kernel_rfl
theorem zba(hh:A.handled=none)(hl:s.heap.IsList l (intItems xs))(one:∀ v h' tk,0 < xs.size->(intItems xs)[argBest (λ i j=>decide (numAt xs i < numAt xs j)) (xs.size - 1)]?=some v->(∀ b o,s.heap.get? b=some o->h'.get? b=some o)->Q v { s with heap:=h',toks:=tk })(none_:∀ h' tk,xs.size=0->(∀ b o,s.heap.get? b=some o->h'.get? b=some o)->Q d { s with heap:=h',toks:=tk }):
  wpAny (model prog w) A (call (.builtin "min") [.ref l] [(Str.ofString "default", d)]) Q E s:=by
 have nm:(toString "min" ++ toString ".loop" : String) = "min.loop" := by decide
 have size:(intItems xs).size=xs.size:=by simp [intItems]
 refine kmk_tree F.kind_min F.plain_min F.entry_min (zbb _ _) ?_;show wpAny _ A.in1 (Bind.bind (Builtin.Builtins.bindParams "min" ["key", "default"] 0 ⟨[],[(Str.ofString "default", d)]⟩) _) _ _ s;refine ah (wpAny_of_eq (show Builtin.Builtins.bindParams "min" ["key", "default"] 0 ⟨[],[(Str.ofString "default", d)]⟩=pure [none,some d] from rfl) (ah (aC (ah (iter_intList hl λ s₂ e st low ne=>?_)))));subst e;refine ah (wpAny_newList ?_ (Nat.zero_le _));rw [nm];have W:=Walks.list (prog:=prog) (w:=w) (A:=A.in1) hh s.heap.objs.size l ne (intItems xs);have away:(s.heap.push { cls:=.type "list_iterator", data:=.fields #[.ref l,.int 0 0] }).objs.size∉[s.heap.objs.size,l]:=λ z=>Nat.lt_irrefl _ (low _ z);have old:∀ {h':Heap},Kp [s.heap.objs.size] (s.heap.push { cls:=.type "list_iterator", data:=.fields #[.ref l,.int 0 0] }).objs.size ((s.heap.push { cls:=.type "list_iterator", data:=.fields #[.ref l,.int 0 0] }).push (eR #[] 0)) h'->
   ∀ b o,s.heap.get? b=some o->h'.get? b=some o:=λ kp b o e=>by
  have lt:=Heap.lt_size e;refine kp b o (by simpa using Nat.ne_of_lt lt) (λ z=>?_) (aU _ (aU _ e));rw [z,Heap.size_push] at lt;exact absurd (Nat.lt_trans (Nat.lt_succ_self _) lt) (Nat.lt_irrefl _)
 have st2:=W.frame 0 _ ((s.heap.push { cls:=.type "list_iterator", data:=.fields #[.ref l,.int 0 0] }).push (eR #[] 0)) st λ b _ o e=>aU _ e;refine aC ⟨plainId_quiet F.plain_min_loop _,?_⟩;by_cases pos:0 < xs.size
 ·exact zbc W (CmpOf.ints_lt (numAt xs) (λ _ _=>intItems_at)) away (by rw [size];exact pos) st2 (Heap.get?_push_size _ rfl) λ v h' tk p kp=>one v h' tk pos (by rw [size] at p;exact p) (old kp)
 ·have e0:xs.size=0:=by omega
  rw [size,e0] at W;exact zbe W away st2 (Heap.get?_push_size _ rfl) λ h' tk kp=>none_ h' tk e0 (old kp)
end
section
variable (K:W.Frag)
theorem sx(r:Vals (ns.map V.int) its):∃ ws:Array (Int × Tok),its.toArray=intItems ws/\ns=ws.toList.map (·.1):=by
 have hi:=j5 r;obtain ⟨ws,e⟩:=hi.allInts.items;refine ⟨ws,e,?_⟩;have q1:=hi.numsOf;have q2:=nums_intItems ws;rw [← e] at q2;rw [← q1];exact q2
noncomputable def um:List V->V->Hp->VK->Prop:=λ xs d H Q=>∃ (p:Addr) (ns:List Int),xs=[.ref p]/\SqL K H p (ns.map V.int)/\(ns=[]->Q d H)/\∀ M:Int,M∈ns->(∀ a∈ns,a<=M)->Q (.int M) H
noncomputable def uo:List V->V->Hp->VK->Prop:=λ xs d H Q=>∃ (p:Addr) (ns:List Int),xs=[.ref p]/\SqL K H p (ns.map V.int)/\(ns=[]->Q d H)/\∀ M:Int,M∈ns->(∀ a∈ns,M<=a)->Q (.int M) H
noncomputable def lA(X:Cx)(id:String)(k:Str)(r:List V->V->Hp->VK->Prop):Prop:=
 ∀ (pins:List (Addr × Obj)) (s:Shared) (σ:St) (H:Hp) (xs:List V) (us:List Value) (d:V) (dv:Value) (Q:VK),Inv X pins σ H s->Vals xs us->RelV d dv->r xs d H Q->
  wpAny (model X.prog X.w) X.A (call (.builtin id) us [(k,dv)]) (EP X pins σ Q) X.xe s
theorem x9(hc:X.calm=true)(h:X.K=K:=by rfl):lA X "max" "default" (um K):=by
 subst h;intro pins s σ H xs us d dv Q I rv rd hh;obtain ⟨p,ns,rfl,hq,q0,q⟩:=hh;obtain ⟨u,rfl,ru⟩:=db rv;cases ru;obtain ⟨its,r,pl,hz⟩:=I.list hq;obtain ⟨ws,e,en⟩:=sx r;refine za2 (I.ok.hd hc) (e ▸ pl.isList) (λ v h' tk pos hv hk=>?_) (λ h' tk e0 hk=>⟨d,H,I.kept (t':=tk) hk,rd,q0 ?_⟩)
 ·obtain ⟨t,rfl⟩:=intItems_at hv;obtain ⟨h1,h2⟩:=argBest_gt (numAt ws) (ws.size - 1);refine ⟨.int _,H,I.kept (t':=tk) hk,⟨t,rfl⟩,q _ ?_ λ a ha=>?_⟩
  ·rw [en,numAt_eq];exact getD_mem (by rw [ag,Array.length_toList];omega)
  ·rw [en] at ha;obtain ⟨j,hj,rfl⟩:=mem_getD ha;rw [ag,Array.length_toList] at hj;rw [← numAt_eq];exact h2 j (by omega)
 ·rw [en,List.eq_nil_of_length_eq_zero (show ws.toList.length=0 by rw [Array.length_toList];exact e0)];rfl
theorem yc(hc:X.calm=true)(h:X.K=K:=by rfl):lA X "min" "default" (uo K):=by
 subst h;intro pins s σ H xs us d dv Q I rv rd hh;obtain ⟨p,ns,rfl,hq,q0,q⟩:=hh;obtain ⟨u,rfl,ru⟩:=db rv;cases ru;obtain ⟨its,r,pl,hz⟩:=I.list hq;obtain ⟨ws,e,en⟩:=sx r;refine zba (I.ok.hd hc) (e ▸ pl.isList) (λ v h' tk pos hv hk=>?_) (λ h' tk e0 hk=>⟨d,H,I.kept (t':=tk) hk,rd,q0 ?_⟩)
 ·obtain ⟨t,rfl⟩:=intItems_at hv;obtain ⟨h1,h2⟩:=argBest_lt (numAt ws) (ws.size - 1);refine ⟨.int _,H,I.kept (t':=tk) hk,⟨t,rfl⟩,q _ ?_ λ a ha=>?_⟩
  ·rw [en,numAt_eq];exact getD_mem (by rw [ag,Array.length_toList];omega)
  ·rw [en] at ha;obtain ⟨j,hj,rfl⟩:=mem_getD ha;rw [ag,Array.length_toList] at hj;rw [← numAt_eq];exact h2 j (by omega)
 ·rw [en,List.eq_nil_of_length_eq_zero (show ws.toList.length=0 by rw [Array.length_toList];exact e0)];rfl
variable {id:String} {k:Str} {ed:Expr} {t:TA} {r:List V->V->Hp->VK->Prop}
noncomputable def tCD(r:List V->V->Hp->VK->Prop)(t:TA)(td:TE):TE:=λ σ H Q=>t σ H λ vs H1=>td σ H1 λ d H2=>r vs d H2 Q
theorem tP(hc:lA X id k r)(hg:Gl X x)(hm:X.mg x=none)(hv:bootBuiltins x=some (.builtin id))(ha:PA X (e::es) t)(hd:PE X ed td)(hn:x ≠ "__name__" := by decide)(hdb:(x == ("__debug__" : Str))=false:=by decide)(he:backTo pos (starEach (e::es) X.env)=(false,eval e X.env)::backTo pos (starEach es X.env):=by rfl)(hpl:(backTo pos (starEach (e::es) X.env)).any (·.1)=false:=by rfl):PE X (.Call (.Name x p) (e::es) [⟨some k,ed,kpos⟩] pos) (tCD r t td):=by
 intro pins s σ H Q I h;refine wpAny_Call_Name_kw (dJ I hg hm hv ?_ hn hdb);refine PyProof.Rows.callWith_kw (thn (ha pos pins s σ H _ I h) λ us s1 ⟨vs,H1,I1,r1,q1⟩=>?_) he hpl rfl rfl;refine kws_cons (thn (hd pins s1 σ H1 _ I1 q1) λ dv s2 ⟨d,H2,I2,r2,q2⟩=>kws_nil ?_);exact hc pins s2 σ H2 vs us d dv Q I2 r1 r2 q2
end
end
section
open PySem.W
noncomputable def zeD:V->List V->Hp->VK->Prop:=λ x vs H Q=>∃ (a:Addr) (kvs:List (Key × V)) (k:Key) (v:V),x = .ref a/\vs=[kV k,v]/\H a=some (.dK kvs)/\(∀ z,bd kvs k=some z->Q z H)/\
 (bd kvs k=none->kvs.length < sizeLine/\Q v (upd H a (.dK (bj kvs k v))))
theorem zbk:MtR X "dict.setdefault" zeD:=by
 intro pins s σ H x vs xv us Q I rx rv hh;obtain ⟨a,kvs,k,v,rfl,rfl,e,q1,q2⟩:=hh;cases (show xv=Value.ref a from rx);obtain ⟨ku,vu,rfl,rk,rw'⟩:=rv.two;obtain ⟨z,hd,ws,rel,dd⟩:=jU I.hok e;have hz:ws.length<=sizeLine:=by rw [← rel.length];exact z
 have val:=rel.val k;refine call_meetsIn F.slot_dict_setdefault dd.typeIs F.entry_dict_setdefault (F.args_dict_setdefault_3 _ _ _) (kt_meets_setdefault (cf X.prog X.w) a (fX rk) hd vu) ⟨ws,dd,hz,λ u hu=>?_,λ hu h' dd' hs=>?_⟩
 ·rw [hu] at val;cases ez:bd kvs k with
  | none=>rw [ez] at val;exact val.elim
  | some y=>
   rw [ez] at val;exact ⟨y,H,I.tok _,val,q1 y ez⟩
 ·rw [hu] at val;cases ez:bd kvs k with
  | some y=>rw [ez] at val;exact val.elim
  | none=>
   obtain ⟨l,q⟩:=q2 ez;have hl:(bj kvs k v).length<=sizeLine:=by have:=iY kvs k v;omega
   have he:∃ q,h'.get? a=some q:=let ⟨q,_,_,hq,_⟩:=dd';⟨q,hq⟩;exact ⟨v,_,jT I (by rw [e];exact True.intro) hs he (iP hl hd (rel.put k rw') dd'),rw',q⟩
theorem wc:∀ {xs:List V} {us:List Value},xs.length=us.length->(∀ (j:Nat) (x:V) (u:Value),xs[j]?=some x->us[j]?=some u->RelV x u)->Vals xs us
 | [],[],_,_=>.nil
 | [],_::_,h,_=>nomatch h
 | _::_,[],h,_=>nomatch h
 | x::xs,u::us,h,r=>.cons (r 0 x u rfl rfl) (wc (Nat.succ.inj h) λ j y z h1 h2=>r (j+1) y z h1 h2)
theorem zeO{k:Key}(h:(cf P w).is k v=true):RelV (kV k) v:=by
 rcases d0 h with ⟨rfl,rfl⟩ | ⟨i,t,rfl,rfl⟩ | ⟨x,t,rfl,rfl⟩
 ·rfl
 ·exact ⟨t,rfl⟩
 ·exact ⟨t,rfl⟩
theorem zap{kvs:List (κ × V)}{ws:List (κ × Value)}(r:KV kvs ws)(j:Nat):(kvs[j]?).map (·.1)=(ws[j]?).map (·.1):=by
 unfold KV at r;induction r generalizing j with
 | nil=>rfl
 | cons h t ih=>
  cases j with
  | zero=>exact congrArg some h.1
  | succ j=>exact ih j
noncomputable def zey:List V->Hp->VK->Prop:=λ xs H Q=>∃ (a:Addr) (kvs:List (Key × V)),xs=[.ref a]/\H a=some (.dK kvs)/\∀ l,H l=none->Q (.ref l) (upd H l (.lst (kvs.map λ kv=>kV kv.1)))
theorem qY(hc:X.calm=true):CallR X (.type "list") zey:=by
 intro pins s σ H xs us Q I rv hh;obtain ⟨a,kvs,rfl,e,q⟩:=hh;obtain ⟨u,rfl,ru⟩:=db rv;cases ru;obtain ⟨z,hd,ws,rel,dd⟩:=jU I.hok e;have hl:kvs.length=ws.length:=rel.length;obtain ⟨ep,hat⟩:=dd.dictAt;refine kdl_call (kdl_dict (knd:=cf X.prog X.w) (kvs:=ws) (ep:=ep) hd) (I.ok.hd hc) hat (by omega) λ h' tk acc c kp g it=>?_;have r:Vals (kvs.map λ kv=>kV kv.1) acc.toList:=by
  refine wc (by rw [ag,hl];exact it.1.symm.trans Array.length_toList.symm) λ j x u h1 h2=>?_;obtain ⟨k,y,e1,e2⟩:=it.2 j u (by rw [← Array.getElem?_toList];exact h2);have hj:j < kvs.length:=by rw [hl];exact (al_gs.mp e1).1
  rw [aL,aH hj] at h1;cases h1;have ek:kvs[j].1=k:=by
   have:=zap rel j;rw [e1,aH hj] at this;exact Option.some.inj this
  show RelV (kV kvs[j].1) u;rw [ek];exact zeO e2
 exact ⟨.ref s.heap.objs.size,_,I.laid (t':=tk) kp (Nat.le_refl _) (show ObjOk X.prog X.w _ h' _ (.lst _) from ⟨by rw [ag];exact z,acc.toList,c,r,by rw [Array.toArray_toList];exact g⟩),rfl,q _ (I.hok.fresh (Nat.le_refl _))⟩
end
noncomputable def CalT(P:Program)(w:World)(K:W.Frag)(mg:Str->Option Value)(base:Heap)(CX:CXT)(k:Nat)(x:Str)(ps:List Str)(keys:List Str)(sp:Str->Sp):Prop:=
 ∃ (a:Addr) (es:Array DictEntry) (n:Nat),mg x=some (.ref a)/\K.lookup a=some ⟨.type "dict", none,.dict es n,#[]⟩/\W.KeysLit w.params es.toList/\
  ∀ y∈keys,∃ (f:Addr) (fd:FuncData),W.nsIn K a y=some (some (.ref f))/\FnOk P w K mg base CX k f fd ps (sp y)/\W.keepIn K (.ref f)=true/\Binds K fd ps []
noncomputable def zgm(keys:List Str)(sp:Str->Sp)(E:XK)(ti:TE)(t:TA):TE:=λ σ H Q=>ti σ H λ y H1=>∃ x,y = .str x/\x∈keys/\t σ H1 λ vs H2=>sp x (vs++[]) H2 Q E
theorem CalT.pe{k:Nat}{keys:List Str}{sp:Str->Sp}{E:XK}{sp':Pos}{i:Expr}{t:TA}(C:CalT X.prog X.w X.K X.mg X.base CX k x ps keys sp)(hr:Room j X.A)(hx:cz CX X E)(hi:PE X i ti)(ha:PA X (e::es) t)(hj:k<=j:=by decide)(hg:Gl X x:=by rfl)(hs:jF i:=by (intro _ _;rfl))(hdb:(x == ("__debug__" : Str))=false:=by decide)(hcall:eval (.Call (.Subscript (.Name x p) i sp') (e::es) [] pos) X.env=(do callWith pos (← eval (.Subscript (.Name x p) i sp') X.env) [] (backTo pos (starEach (e::es) X.env)) (backToKw pos (keywordEach [] X.env))):=by rfl)(he:starEach (e::es) X.env=(false,eval e X.env)::starEach es X.env:=by rfl)(hpl:(backTo pos (starEach es X.env)).any (·.1)=false:=by rfl):
  PE X (.Call (.Subscript (.Name x p) i sp') (e::es) [] pos) (zgm keys sp E ti t):=by
 obtain ⟨a,ds,n,hm,hl,hk,hf⟩:=C;intro pins s σ H Q I h;refine Call_ (pM F.slot_dict_getitem.lookup hs (eD I hg hm (thn (hi pins s σ H _ I h) λ iv s1 ⟨y,H1,I1,ry,z,ey,hz,q⟩=>?_) hdb)) hcall;subst ey;obtain ⟨tk,rfl⟩:=ry;obtain ⟨f,fd,hn,G,hkp,hb⟩:=hf z hz;have hmap:=W.mapOf_K (prog:=X.prog) (w:=X.w) I1.kIn hl hk;refine ⟨hmap.typeIs,wpAny_getItem_of (strKind_is X.prog X.w z tk) hmap (W.find_K hl hn) ?_⟩;have I2:=I1.tok (s1.toks+1);refine W.callWith_K (first:=[]) (h₀:=X.base) I.ok.mod.kin hkp (thn (ha pos pins _ σ H1 _ I2 q) λ us s2 ⟨vs,H2,I3,r,q2⟩=>⟨I3.kIn,?_⟩) he hpl;exact ji (ds:=[]) (dvs:=[]) G (hr.mono hj) hb .nil hx I3 r q2
section
open PySem.NumText
noncomputable def bh(l:List Nat):Prop:=∀ c∈l,c=48\/c=49
noncomputable def dX(l:List Nat):Nat:=l.foldl (λ acc c=>acc * 2+(c - 48)) 0
theorem xz{c:Nat}(h:c=48\/c=49)(ds:Array Nat)(b:Bool):step 2 (ds,b) c=some (ds.push (c - 48),true):=by
 rcases h with rfl | rfl <;> rfl
theorem qx:∀ (l:List Nat) (ds:Array Nat) (b:Bool),bh l->l.foldlM (step 2) (ds,b)=some ((l.map (· - 48)).foldl Array.push ds,b || !l.isEmpty)
 | [],ds,b,_=>by simp
 | c::r,ds,b,h=>by
  rw [List.foldlM_cons,xz (h c b9)];show r.foldlM (step 2) (ds.push (c - 48),true)=_;rw [qx r _ true λ d hd=>h d (bp _ hd)];simp
theorem ue:∀ (l:List Nat) (ds:Array Nat),(l.foldl Array.push ds)=ds++l.toArray
 | [],ds=>by simp
 | c::r,ds=>by
  rw [List.foldl_cons,ue r];simp
theorem xu(h:bh l)(hne:l≠[]):digits? 2 l=some (l.map (· - 48)).toArray:=by
 unfold digits?;rw [qx l _ _ h,ue];cases l with
 | nil=>exact absurd rfl hne
 | cons c r=>simp
theorem qy(h:bh l)(p:Nat->Bool)(h0:p 48=false)(h1:p 49=false):l.dropWhile p=l:=by
 cases l with
 | nil=>rfl
 | cons c r=>
  have:p c=false:=by rcases h c b9 with e | e <;> rw [e] <;> assumption
  rw [List.dropWhile_cons,this];rfl
theorem xx(h:bh l):bh l.reverse:=λ c hc=>h c (List.mem_reverse.mp hc)
theorem xy(h:bh l):sign l=(false,l):=by
 cases l with
 | nil=>rfl
 | cons c r=>rcases h c b9 with e | e <;> rw [e] <;> rfl
theorem xt(h:bh l):based 2 l=(2,false,l):=by
 match l,h with
 | [],_=>rfl
 | [c],h=>rcases h c b9 with e | e <;> rw [e] <;> rfl
 | c::d::r,h=>
  rcases h c b9 with e | e <;> rcases h d (bp _ b9) with e2 | e2 <;> rw [e,e2] <;> rfl
theorem yX(l:List Nat)(a:Nat):(l.map (· - 48)).foldl (λ acc d=>acc * 2+d) a=l.foldl (λ acc c=>acc * 2+(c - 48)) a:=by
 rw [List.foldl_map]
theorem xw(h:bh l)(hne:l≠[]):(int_private% "readNumeral") 0 2 l=(int_private% "Numeral.value") (dX l:Int):=by
 rw [readNumeral_eq,qy h blank rfl rfl,xy h];show judge 0 false (based 2 l).1 (based 2 l).2.1 (digits? (based 2 l).1 (((based 2 l).2.2.reverse.dropWhile blank).reverse))=_;rw [xt h];show judge 0 false 2 false (digits? 2 ((l.reverse.dropWhile blank).reverse))=_;rw [qy (xx h) blank rfl rfl,List.reverse_reverse,xu h hne];show (int_private% "Numeral.value") (((l.map (· - 48)).toArray.foldl (λ acc d=>acc * 2+d) 0:Nat):Int)=_;rw [List.foldl_toArray,yX];rfl
theorem qz:∀ {l:List Nat},bh l->l.takeWhile (· != 0)=l
 | [],_=>rfl
 | c::r,h=>by
  have:(c != 0)=true:=by rcases h c b9 with e | e <;> rw [e] <;> rfl
  rw [List.takeWhile_cons,this,if_pos rfl,qz λ d hd=>h d (bp _ hd)]
theorem zgJ(a b:Value):checkTypeCall "int" ⟨[a,b],[]⟩=pure ():=by kernel_rfl
theorem zb1(a b:Value):checkBuiltinCall "int.__new__" ⟨[.type "int", a,b],[]⟩=pure ():=by kernel_rfl
structure Shut (p:Prop):Prop where
 out:p
theorem zgT(hb:bh l)(hne:l≠[])(hl:l.length<=640)(h:Q (.int (dX l) s.toks) { s with toks:=s.toks+1 }):
  wpAny M A ((int_private% "intFromText") v l 2) Q E s:=by
 have ht:=qz hb;have hr:=xw hb hne;have hs:(l.takeWhile (· != 0)).length<=640:=by rw [ht];exact hl
 have ha:((l.takeWhile (· != 0)).length == l.length)=true:=by rw [ht];exact beq_self_eq_true _
 rw [← ht] at hr;have hr:(int_private% "readNumeral") 0 2 (l.takeWhile (· != 0))=(int_private% "Numeral.value") (dX l:Int):=by rw [hr,ht]
 obtain ⟨hp,g,d,tk,os⟩:=s
 repeat (any_goals (first | assumption | (with_reducible refine wpAny_ite_true (aO hs) ?_) | (with_reducible refine wpAny_ite_true (aO ha) ?_) | wp_step))
 all_goals (try rw [hr])
 all_goals (try dsimp only)
 repeat (any_goals (first | assumption | (with_reducible refine wpAny_ite_true (aO hs) ?_) | (with_reducible refine wpAny_ite_true (aO ha) ?_) | wp_step))
theorem wp_text2'{z:List Nat}(e:z=l)(hb:bh l)(hne:l≠[])(hl:l.length<=640)(h:Q (.int (dX l) s.toks) { s with toks:=s.toks+1 }):
  wpAny M A ((int_private% "intFromText") v z (Int.toNat 2)) Q E s:=by
 subst e;exact zgT hb hne hl h
theorem zk{x:PySem.Str}{u t:Tok}(hb:bh x.cps.toList)(hne:x.cps.toList≠[])(hl:x.length<=640):Gives (Builtin.«int.__new__» ⟨[.type "int", .str x u,.int 2 t],[]⟩) (.int (dX x.cps.toList)):=
 .of_wp λ M A E s Q h=>by
  obtain ⟨hp,g,d,tk,os⟩:=s;have f1:=F.conv_sub_int;have f2:=F.madeHere_int;have f6:typeOf (.str x u)=pure (.type "str"):=rfl;have hx:x.cps.all (· < 128)=true:=by
   rw [Array.all_eq_true_iff_forall_mem];intro c hc;rcases hb c (Array.mem_toList_iff.mpr hc) with e | e <;> rw [e] <;> rfl
  have hl':x.cps.toList.length<=640:=by rw [Array.length_toList];exact hl
  have hk:=Shut.mk (And.intro hb (And.intro hne hl'));clear hb hne hl hl'
  repeat (any_goals (first | assumption | ((with_reducible show wpAny _ _ ((int_private% "intFromText") _ _ _) _ _ _);refine wp_text2' (if_pos hx) hk.out.1 hk.out.2.1 hk.out.2.2 ?_) | wp_step))
  all_goals first | exact ⟨_,rfl,h⟩ | skip
noncomputable def zev:List V->Hp->VK->Prop:=λ xs H Q=>∃ z:Str,xs=[.str z,.int 2]/\bh z.cps.toList/\z.cps.toList≠[]/\z.length<=640/\Q (.int (dX z.cps.toList)) H
theorem x5:CallR X (.type "int") zev:=by
 intro pins s σ H xs us Q I r h;obtain ⟨z,rfl,hb,hne,hl,q⟩:=h;obtain ⟨a,b,rfl,⟨t,rfl⟩,⟨k,rfl⟩⟩:=r.two;refine callType_new F.called_int F.newNe_int (zgJ _ _) (zb1 _ _) (λ obj=>F.args_object_init_3 obj _ _) F.entry_int_new (zk hb hne hl).meets ?_;exact (show (Made.int (dX z.cps.toList)).post _ s from ⟨rfl,⟨.int _,H,I.tok _,⟨_,rfl⟩,q⟩⟩)
theorem rn(c:Nat):∀ l:List Nat,PyProof.Rows.cnt c l=((l.count c:Nat):Int)
 | []=>rfl
 | n::r=>by
  rw [PyProof.Rows.cnt_cons,rn c r,List.count_cons];by_cases e:n=c
  ·subst e;simp;omega
  ·have:(n == c)=false:=by simpa using e
   rw [if_neg e,this];simp
theorem uK(x:PySem.Str)(c:Nat):Txt.count x ⟨#[c]⟩=((x.cps.toList.count c:Nat):Int):=(PyProof.Rows.count_is x c).trans (rn c x.cps.toList)
theorem sX:MtR X "str.count" (λ x vs H Q=>∃ z y:Str,x = .str z/\vs=[.str y]/\Q (.int (Txt.count z y)) H):=by
 intro pins s σ H x vs v us Q I rx rv h;obtain ⟨z,y,rfl,rfl,q⟩:=h;obtain ⟨t,rfl⟩:=rx;obtain ⟨u,rfl,⟨k,rfl⟩⟩:=rv.one;exact SC.count ⟨.int _,H,I.tok _,⟨_,rfl⟩,q⟩
noncomputable def zeF:V->Option Int->Option Int->Hp->VK->Prop:=λ x lo hi H Q=>∃ (z:Str) (a b:Nat),x = .str z/\lo=some (a:Int)/\hi=some (b:Int)/\a<=b/\b<=z.length/\z.length<=sizeLine/\Q (.str ⟨((z.cps.toList.drop a).take (b - a)).toArray⟩) H
theorem zfK(z:Str){a b:Nat}(hab:a<=b)(hb:b<=z.length):Txt.slice z (some (a:Int)) (some (b:Int))=⟨((z.cps.toList.drop a).take (b - a)).toArray⟩:=by
 unfold Txt.slice;rw [StrLaws.sliced_plain z hab hb,StrLaws.strSliceIndices_plain hab hb]
 split
 ·rename_i h
  rw [ag,List.length_range] at h;have h:b - a=z.length:=by simpa using h
  have ea:a=0:=by omega
  subst ea;rw [h];apply iB;show _=List.take z.length (List.drop 0 z.cps.toList);rw [List.drop_zero,List.take_of_length_le (by rw [Array.length_toList];exact Nat.le_refl _)]
 ·rfl
theorem uM:SlR X zeF:=by
 intro pins s σ H x v vl vu lo hi sl Q I rx hs pl pu h;obtain ⟨z,a,b,rfl,rfl,rfl,hab,hb,hz,q⟩:=h;obtain ⟨t,rfl⟩:=rx;obtain ⟨ta,rfl⟩:∃ ta,vl = .int (a:Int) ta:=by cases pl;exact ⟨_,rfl⟩
 obtain ⟨tb,rfl⟩:∃ tb,vu = .int (b:Int) tb:=by cases pu;exact ⟨_,rfl⟩
 refine ⟨"str", _,F.slot_str_getitem.lookup,typeIs_str _ _ _,?_⟩;refine wpAny_getItem_str_slice (l:=some ((a:Int),ta)) (u:=some ((b:Int),tb)) (st:=none) hs rfl ?_;refine post_val_or_str ⟨Nat.le_trans (Txt.slice_le z (some (a:Int)) (some (b:Int))) hz,λ t' k=>⟨.str _,H,I.tok k,⟨t',?_⟩,q⟩⟩;show Value.str (Txt.slice z (some (a:Int)) (some (b:Int))) t'=_;rw [zfK z hab hb]
end
noncomputable def Fly(B:Heap)(l:List Env)(e:Addr)(cls a0:Value)(h:Heap):Prop:=∃ fl,B.StaysIn h/\B.get? e=none/\h.FunFrames B l/\h.TracedAtW B e cls a0 fl
section
variable {B:Heap} {l:List Env} {e L:Addr} {a0:Value} {Q:Unit->Shared->Prop}
theorem Fly.mark{o:Option Addr}(f:Fly B l e cls a0 s.heap)(k:∀ h',Fly B l e cls a0 h'->s.heap.UpToSlots h'->Q () { s with heap:=h' }):wpAny M A (setFlight (.ref e) o) Q E s:=by
 obtain ⟨fl,f1,f2,f3,oe,vs,T,oT,ts,he,hc,hd,h1,hn,hT,gT,dT,h3⟩:=f;have z:3 < ts.size:=(Array.getElem?_eq_some_iff.mp h3).1;have far:∀ (b:Addr) (g:Obj->Obj),b≠T->(s.heap.update T g).get? b=s.heap.get? b:=λ b g hb=>Heap.get?_update_other _ _ (Ne.symm hb);have nt:∀ b ob,s.heap.get? b=some ob->(∀ vs,ob.data≠.fields vs)->b≠T:=by
  rintro b ob hb hf rfl;rw [gT] at hb;cases hb;exact hf ts dT
 unfold setFlight;refine ah (wpAny_field he hd h1 ?_);rw [if_pos (by simp:(Value.ref T != Value.none)=true)];refine wpAny_setField gT dT z (k _ ⟨_,λ b ob hb=>?_,f2,f3.of_keeps λ b ob hb hf=>⟨ob,?_,rfl⟩,oe,vs,T,_,_,?_,hc,hd,h1,hn,hT,Heap.get?_update_self _ gT (Obj.isFreed_of_fields (Obj.data_mapFields dT _)),Obj.data_mapFields dT _,by simp [z];rfl⟩ λ b ob hb hf=>⟨ob.slots,?_⟩)
 ·rw [far b _ (by rintro rfl;rw [hn] at hb;cases hb)];exact f1 b ob hb
 ·rw [far b _ (nt b ob hb hf)];exact hb
 ·rw [far e _ (Ne.symm hT)];exact he
 ·rw [far b _ (nt b ob hb hf)];exact hb
end
section
variable {N':List Str} {f:Addr} {E:XK}
end
section
open PySem.Builtin.Str
end
section
variable {k:Nat} {f:Addr} {E:XK} {m:Str} {o:Expr} {t:TA}
end
section
variable {k:Nat} {E:XK} {m:Str} {o:Expr} {t:TA}
end
section
open PySem.Builtin.Str
end
section
variable [DecidableEq κ] {kn:KeyKind prog w κ}
end
section
variable [DecidableEq κ] {kn:KeyKind prog w κ}
end
noncomputable def met{κ:Type}[DecidableEq κ]:List κ->List κ->List κ
 | acc,[]=>acc
 | acc,k::r=>met (if k∈acc then acc else acc++[k]) r
section
variable [DecidableEq κ] {kn:KeyKind prog w κ} {G:Array GenState->Array GenState->Prop} {P:Nat->Value->Prop} {St:Nat->Shared->Prop}
end
section
variable [DecidableEq κ] {kn:KeyKind prog w κ}
end
section
open PySem.W
section
variable {T:String} {r:Addr} {OK:Heap->Prop} {P:Nat->Value->Prop}
end
end
theorem Inv.frz{d:Addr}{kvs:List (Key × V)}(I:Inv X pins σ H s)(e:H d=some (.dK kvs)):∃ o,Inv X pins σ (upd H d (.frz o (.dK kvs))) s:=by
 have ob:=I.hok d _ e;obtain ⟨z,y,vs,r,o,es,ep,eo,c⟩:=id ob;refine ⟨o,I.write (x:=d) (e:=d) (o:=.frz o (.dK kvs)) (h':=s.heap) (t':=s.toks) (by rw [e];trivial) (.inl rfl) (λ b u _ q=>q) ⟨o,eo⟩ ⟨eo,z,y,vs,r,o,es,ep,eo,c⟩⟩
theorem Inv.dictAt{o:Obj}{d:Addr}{kvs:List (Key × V)}(I:Inv X pins σ H s)(e:H d=some (.frz o (.dK kvs))):∃ vs es ep,KV kvs vs/\o.data = .dict es ep/\s.heap.DictAt (cf X.prog X.w) d vs ep:=by
 obtain ⟨eo,z,y,vs,r,dd⟩:=I.hok d _ e;obtain ⟨ep,h⟩:=dd.dictAt;obtain ⟨o2,es,eo2,c,dt,q⟩:=id h;rw [eo] at eo2;cases eo2;exact ⟨vs,es,ep,r,dt,h⟩
section
open PySem.W
theorem yo{fr:List (Option Nat)}{Q:VK}(Pv:Nat->List V->Hp->Prop)(h0:Pv 0 [] H)(hl:∀ i acc H,i<=n->Pv i acc H->acc.length<=i/\(i < n->J.go i H)/\(n<=i->J.stop i H))(hz:n<=sizeLine)(hs:∀ i x acc H H',i < n->Pv i acc H->J.yld i H x H'->g x (stC fr σ) H' λ σ2 H2=>Wk (stC fr σ) σ2/\tc σ2 H2 λ b H3=>
   if b=true then te σ2 H3 λ y H4=>∃ m',m' < n - i/\CW n Pv (i+1) m' (acc++[y]) H4 else ∃ m',m' < n - i/\CW n Pv (i+1) m' acc H3)(hd:∀ acc H,Pv n acc H->∀ p,H p=none->Q (.ref p) (upd H p (.lst acc))):jE fr J g tc te σ H Q:=by
 refine ⟨CW n Pv,⟨n,by simp,Nat.zero_le _,h0⟩,?_⟩;rintro i m acc H ⟨rfl,hi,p⟩;obtain ⟨q1,q2,q3⟩:=hl i acc H hi p;by_cases hlt:i < n
 ·exact .inr ⟨q2 hlt,by omega,λ x H' y=>hs i x acc H H' hlt p y⟩
 ·have e:i=n:=by omega
  subst e;exact .inl ⟨q3 (Nat.le_refl _),hd acc H p⟩
end
theorem PE.alt{t1 t2:TE}(h1:PE X e t1)(h2:PE X e t2):PE X e (λ σ H Q=>t1 σ H Q\/t2 σ H Q):=λ pins s σ H Q I h=>h.elim (h1 pins s σ H Q I) (h2 pins s σ H Q I)
theorem OpR.alt{o:Value->Value->Sem Value}{r1 r2:R2}(h1:OpR X o r1)(h2:OpR X o r2):OpR X o (λ x y H Q=>r1 x y H Q\/r2 x y H Q):=λ pins s σ H x y v u Q I rx ry h=>h.elim (h1 pins s σ H x y v u Q I rx ry) (h2 pins s σ H x y v u Q I rx ry)
noncomputable def del(H:Hp)(c:Addr):Hp:=λ b=>if b=c then none else H b
theorem gs   : del H c c=none:=if_pos rfl
theorem c5(h:b≠c):del H c b=H b:=if_neg h
noncomputable def FrO(o:Obj)(c:Addr):HO:=.frz o (.ext λ h=>h.get? c=some o)
section
variable {o:Obj} {fs:List Addr}
theorem HOk.at(x:HOk P w H h)(e:H c=some (FrO o c)):h.get? c=some o:=(x c _ e).1
theorem jX(e:h.get? c=some o):ObjOk P w H h c (FrO o c):=⟨e,e,⟨o,e⟩,λ h1 h2 q k=>k _ q⟩
theorem HOk.frO(x:HOk P w H h)(n:H c=none)(e:h.get? c=some o):HOk P w (upd H c (FrO o c)) h:=λ b u q=>by
 by_cases hb:b=c
 ·subst hb;rw [af] at q;cases q;exact jX e
 ·rw [ai hb] at q;exact (x b u q).stay (λ _ _ _ z=>z) (λ d z=>by rw [ai (aK z n)];exact z) λ d _ z=>by rw [ai (aK z n)];exact z
theorem HOk.del(x:HOk P w H h)(n:H c=some (FrO o c)):HOk P w (del H c) h:=λ b u q=>by
 by_cases hb:b=c
 ·subst hb;rw [gs] at q;cases q
 ·rw [c5 hb] at q;exact (x b u q).stay (λ _ _ _ z=>z) (λ d z=>by rw [c5 (dD z n nofun)];exact z) λ d _ z=>by rw [c5 (dD z n nofun)];exact z
theorem Un.thaw(u:Un fs [] (upd H c (FrO o c)) H' h h')(n:H c=none)(e:h.get? c=some o)(e':h'.get? c=some o):Un fs [] H (L2.del H' c) h h':=by
 have nc:∀ {b:Addr} {ob:HO},H b=some ob->b≠c:=λ q z=>by subst z;rw [n] at q;cases q
 refine ⟨λ b ob q hn hb hx=>?_,λ b ob q hn hb hx=>?_,λ b ob q hn hx=>?_,λ b ob q hx=>u.there b ob q hx,λ b xs q=>?_,λ b ob xs q=>?_,λ b ps q=>?_⟩
 ·by_cases z:b=c
  ·subst z;rw [e] at q;cases q;exact e'
  ·exact u.keep b ob q (by rw [ai z];exact hn) hb hx
 ·by_cases z:b=c
  ·subst z;rw [e] at q;cases q;exact ⟨o.slots,e'⟩
  ·exact u.slot b ob q (by rw [ai z];exact hn) hb hx
 ·by_cases z:b=c
  ·subst z;exact gs
  ·rw [c5 z];exact u.free b ob q (by rw [ai z];exact hn) hx
 ·rw [c5 (nc q)];exact u.tups b xs (by rw [ai (nc q)];exact q)
 ·rw [c5 (nc q)];exact u.frzs b ob xs (by rw [ai (nc q)];exact q)
 ·rw [c5 (nc q)];exact u.tbls b ps (by rw [ai (nc q)];exact q)
theorem Un.refr(u:Un fs [] (L2.del H c) H' h h')(n:H c=some (FrO o c)):Un fs [] H (upd H' c (FrO o c)) h h':=by
 have nc:∀ {b:Addr},H b=none->b≠c:=λ q z=>by subst z;rw [n] at q;cases q
 refine ⟨λ b ob q hn hb hx=>u.keep b ob q (by rw [c5 (nc hn)];exact hn) hb hx,λ b ob q hn hb hx=>u.slot b ob q (by rw [c5 (nc hn)];exact hn) hb hx,
  λ b ob q hn hx=>by rw [ai (nc hn)];exact u.free b ob q (by rw [c5 (nc hn)];exact hn) hx,λ b ob q hx=>u.there b ob q hx,λ b xs q=>?_,λ b ob xs q=>?_,λ b ps q=>?_⟩
 ·have z:b≠c:=dD q n nofun;rw [ai z];exact u.tups b xs (by rw [c5 z];exact q)
 ·by_cases z:b=c
  ·subst z;rw [n] at q;rw [af];exact q
  ·rw [ai z];exact u.frzs b ob xs (by rw [c5 z];exact q)
 ·have z:b≠c:=dD q n nofun;rw [ai z];exact u.tbls b ps (by rw [c5 z];exact q)
end
noncomputable def fe(base:Heap)(mg:Str->Option Value):Prop:=∃ bm ob,mg "__builtins__" = some (.ref bm)/\bm≠builtinsNs/\base.get? bm=some ob/\ob.cls = .type "module" /\ ob.dict=some builtinsNs/\ob.data = .plain
noncomputable def CdH(H:Hp)(c:Addr)(qual:Str):Prop:=∃ oc vs t,H c=some (FrO oc c)/\oc.data = .fields vs/\vs[1]?=some (.str qual t)
noncomputable def cG(H:Hp)(T:Addr)(pos:Pos)(qual:Str):Prop:=∃ ps,H T=some (.tbl ps)/\TriplesOk ps.toList/\(codeAmong pos ps.toList=none\/∃ c,codeAmong pos ps.toList=some (.ref c)/\CdH H c qual)
noncomputable def LamH(H:Hp)(l:Addr)(qual:Str)(ar:Arguments)(body:Expr)(sc:Scope)(cl:List (Str × Addr)):Prop:=
 ∃ pm c ctv,H l=some (FrO (W.kla_obj "<lambda>" qual ar body sc cl pm c ctv) l)/\CdH H c qual
noncomputable def eK(T:Addr)(H H':Hp):Prop:=∀ b o,b≠T->H b=some o->H' b=some o
noncomputable def zgd(T:Addr)(qual:Str)(ar:Arguments)(body:Expr)(sc:Scope)(pos:Pos)(cl:List (Str × Addr)):TE:=λ σ H Q=>cG H T pos qual/\
 ∀ H' l,eK T H H'->H l=none->cG H' T pos qual->LamH H' l qual ar body sc cl->Q (.ref l) H'
theorem vV:∀ {l:List Value} {a b:Int} {c:Value} , TriplesOk l->TriplesOk (l++[rawInt a,rawInt b,c])
 | [],_,_,_,_=>trivial
 | .int _ _ :: .int _ _::_::r,_,_,_,h=>vV (l:=r) h
theorem CdH.mono{q:Str}(x:CdH H c q)(h:∀ o,H c=some o->H' c=some o):CdH H' c q:=let ⟨oc,vs,t,e,r⟩:=x;⟨oc,vs,t,h _ e,r⟩
theorem LamH.mono{l:Addr}{body:Expr}(x:LamH H l qual ar body sc cl)(h:∀ b o,H b=some o->H' b=some o\/∃ ps,o = .tbl ps):LamH H' l qual ar body sc cl:=by
 obtain ⟨pm,c,ctv,e,oc,vs,t,e2,r⟩:=x;have g:∀ {b:Addr} {o:Obj},H b=some (FrO o b)->H' b=some (FrO o b):=λ q=>(h _ _ q).elim id λ z=>nomatch z;exact ⟨pm,c,ctv,g e,oc,vs,t,g e2,r⟩
section
variable {body:Expr} {c0 T:Addr}
theorem tV(hcl:closureFor sc X.env=pure cl)(hcd:X.env.code = .ref c0)(C:W.codeHdIn X.K c0 T=true)(B:fe X.base X.mg)(hdef:defaultsOf ar X.env=([],[]):=by rfl):
  PE X (.Lambda ar body sc pos) (zgd T (X.env.qual ++ "<lambda>") ar body sc pos cl):=by
 rintro pins s σ H Q I ⟨⟨ps,eT,ht,hc⟩,h⟩;refine W.kla_eval hdef ?_;have hg:s.heap.Ns mainGlobals X.mg:=I.ok.mod.glob.keeps I.bk;have hP:s.heap.get? T=some (W.tabObj ps):=I.hok T _ eT;have CH:=W.codeHd_of_K I.kIn C;have hgP:mainGlobals≠T:=λ z=>by
  obtain ⟨o,es,ep,e,hd,_⟩:=hg;rw [z,hP] at e;cases e;cases hd
 obtain ⟨bm,ob,b1,b2,b3,b4,b5,b6⟩:=B;have bT:bm≠T:=λ z=>by
  have:=I.bk _ _ b3;rw [z,hP] at this;cases this;cases b4
 have bG:bm≠mainGlobals:=λ z=>by
  obtain ⟨o,es,ep,e,hd,_⟩:=I.ok.mod.glob;rw [z,e] at b3;cases b3;rw [hd] at b6;cases b6
 have BA:s.heap.BuiltinsAt X.mg T:=⟨bm,ob,b1,b2,bG,bT,I.bk _ _ b3,b4,b5,b6⟩
 rcases hc with hn | ⟨c,hf,hcd'⟩
 ·refine W.kla_makeFunction hcl I.ok.glob hg hcd CH hP ht hn hgP BA λ c' ctv h' tk hx hge hlt hrec htb=>?_;obtain ⟨c2,oc,vs,t,e2,hoc,hd,hv⟩:=hrec;cases e2;have nT:∀ {b:Addr},H b=none->b≠T:=λ q z=>by subst z;rw [eT] at q;cases q
  have hc0:H c'=none:=I.hok.fresh hge;have hl0:H h'.objs.size=none:=I.hok.fresh (Nat.le_trans hge (Nat.le_of_lt hlt));have ncl:c'≠h'.objs.size:=Nat.ne_of_lt hlt;let fo:Obj:=W.kla_obj "<lambda>" (X.env.qual ++ "<lambda>") ar body sc cl ((X.mg "__name__").getD .none) c' ctv;let ps':=ps ++ #[rawInt pos.line,rawInt pos.col,.ref c'];let H':Hp:=upd (upd (upd H T (.tbl ps')) c' (FrO oc c')) h'.objs.size (FrO fo h'.objs.size);have old:∀ b o,b≠T->H b=some o->H' b=some o:=λ b o n q=>by
   show upd _ _ _ _=_;rw [ai (aK q hl0),ai (aK q hc0),ai n];exact q
  have eT':H' T=some (.tbl ps'):=by
   show upd _ _ _ _=_;rw [ai (aK eT hl0),ai (aK eT hc0),af]
  have ec':H' c'=some (FrO oc c'):=by
   show upd _ _ _ _=_;rw [ai ncl,af]
  have el':H' h'.objs.size=some (FrO fo h'.objs.size):=af;have kp:∀ b o,b≠T->s.heap.get? b=some o->(h'.push fo).get? b=some o:=λ b o n q=>aU _ (hx b o n q);have hl:(h'.push fo).get? h'.objs.size=some fo:=Heap.get?_push_size _ rfl;have fr:∀ b o,s.heap.get? b=some o->H b=none->H' b=none:=λ b o q n=>by
   show upd _ _ _ _=_;have:=Heap.lt_size q;rw [ai (Nat.ne_of_lt (Nat.lt_trans (Nat.lt_of_lt_of_le this hge) hlt)),ai (Nat.ne_of_lt (Nat.lt_of_lt_of_le this hge)),ai (nT n)];exact n
  have un:Un X.fs [] H H' s.heap (h'.push fo):=by
   refine ⟨λ b o q n _ _=>kp b o (nT n) q,λ b o q n _ _=>⟨o.slots,kp b o (nT n) q⟩,λ b o q n _=>fr b o q n,λ b o q _=>?_,λ b xs q=>old b _ (dD q eT nofun) q,λ b o u q=>old b _ (dD q eT nofun) q,λ b qs q=>?_⟩
   ·by_cases z:b=T
    ·subst z;exact ⟨_,aU _ htb⟩
    ·exact ⟨o,kp b o z q⟩
   ·by_cases z:b=T
    ·subst z;rw [eT] at q;cases q;exact ⟨_,eT'⟩
    ·exact ⟨#[],by rw [old b _ z q];simp⟩
  have hok:HOk X.prog X.w H' (h'.push fo):=λ b u q=>by
   by_cases z1:b=h'.objs.size
   ·subst z1;rw [el'] at q;cases q;exact jX hl
   by_cases z2:b=c'
   ·subst z2;rw [ec'] at q;cases q;exact jX (aU _ hoc)
   by_cases z3:b=T
   ·subst z3;rw [eT'] at q;cases q;exact aU _ htb
   ·have q':H b=some u:=by rw [← q];show _=upd _ _ _ _;rw [ai z1,ai z2,ai z3]
    refine (I.hok b u q').stay (λ d v hd r=>kp d v (λ zz=>?_) r) (λ d r=>old d _ (dD r eT nofun) r) λ d xs r=>old d _ (dD r eT nofun) r;rcases hd with rfl | hd
    ·exact z3 zz
    ·subst zz;rw [eT] at hd;cases hd
  have cd:CdH H' c' (X.env.qual ++ "<lambda>"):=⟨oc,vs,t,ec',hd,hv⟩
  have I':Inv X pins σ H' { s with heap:=h'.push fo,toks:=tk }:=I.un un hok;have am:codeAmong pos ps'.toList=some (.ref c'):=by
   have:=codeAmong_snoc (c:=.ref c') ps.toList ht hn;simpa [ps'] using this
  have tr:TriplesOk ps'.toList:=by
   have:=vV (a:=pos.line) (b:=pos.col) (c:=.ref c') ht;simpa [ps'] using this
  exact ⟨.ref h'.objs.size,H',I',rfl,h H' _ old hl0 ⟨ps',eT',tr,.inr ⟨c',am,cd⟩⟩ ⟨_,c',ctv,el',cd⟩⟩
 ·refine W.kla_makeFunctionHit hcl I.ok.glob hg hcd CH hP ht hf BA λ ctv h' tk hk hsz=>?_;let fo:Obj:=W.kla_obj "<lambda>" (X.env.qual ++ "<lambda>") ar body sc cl ((X.mg "__name__").getD .none) c ctv;have hl0:H h'.objs.size=none:=I.hok.fresh hsz;have old:∀ b o,H b=some o->upd H h'.objs.size (FrO fo h'.objs.size) b=some o:=λ b o q=>by rw [ai (aK q hl0)];exact q
  have I':Inv X pins σ (upd H h'.objs.size (FrO fo h'.objs.size)) { s with heap:=h'.push fo,toks:=tk }:=
   I.laid (λ b u q=>aU _ (hk b u q)) hsz (jX (Heap.get?_push_size _ rfl))
  have cd:=hcd'.mono λ o q=>old c o q;exact ⟨.ref h'.objs.size,_,I',rfl,h _ _ (λ b o _ q=>old b o q) hl0 ⟨ps,old _ _ eT,ht,.inr ⟨c,hf,cd⟩⟩ ⟨_,c,ctv,af,cd⟩⟩
end
noncomputable def LamSc(sc:Scope)(x y:Str):Prop:=sc.kind = .function/\sc.isCoroutine=false/\sc.isGenerator=false/\x≠y/\sc.names.lookup y=some .free/\(∀ p∈sc.names,(p.2 = .cell\/p.2 = .free)->p.1=x\/p.1=y)/\
 ((sc.names.lookup x=some .local/\∀ n c,cellsFrom n sc.names [(y,c)]=[(y,c)])\/(sc.names.lookup x=some .cell/\∀ n c,cellsFrom n sc.names [(y,c)]=[(x,n),(y,c)]))
noncomputable def d3(sc:Scope)(L:Addr)(y:Str)(c:Addr):List (Str × Addr):=cellsFrom (L+1) sc.names [(y,c)]
theorem LamSc.cells(S:LamSc sc x y)(L c:Addr){z:Str}(h:(d3 sc L y c).lookup z=some d):(z=y/\d=c)\/(z=x/\d=L+1/\sc.names.lookup x=some .cell):=by
 obtain ⟨_,_,_,hne,_,_,⟨h1,h2⟩ | ⟨h1,h2⟩⟩:=S
 ·unfold d3 at h;rw [h2] at h;have:=PySem.mem_of_lookup h;simp at this;exact .inl this
 ·unfold d3 at h;rw [h2] at h;have:=PySem.mem_of_lookup h;simp at this;rcases this with q | q
  ·exact .inr ⟨q.1,q.2,h1⟩
  ·exact .inl q
theorem LamSc.celly(S:LamSc sc x y)(L c:Addr):(d3 sc L y c).lookup y=some c:=by
 obtain ⟨_,_,_,hne,_,_,⟨h1,h2⟩ | ⟨h1,h2⟩⟩:=S
 ·unfold d3;rw [h2];simp
 ·unfold d3;rw [h2,List.lookup_cons,beq_eq_false_iff_ne.mpr (Ne.symm hne)];simp
theorem LamSc.cellx(S:LamSc sc x y)(L c:Addr)(h:sc.names.lookup x=some .cell):(d3 sc L y c).lookup x=some (L+1):=by
 obtain ⟨_,_,_,hne,_,_,⟨h1,h2⟩ | ⟨h1,h2⟩⟩:=S
 ·rw [h] at h1;cases h1
 ·unfold d3;rw [h2,List.lookup_cons];simp
theorem zb2{g:Addr}{fn:Option Addr}{Q:Env->Shared->Prop}(S:LamSc sc x y)(h:∀ h' tk m,(∀ b o,s.heap.get? b=some o->h'.get? b=some o)->h'.Ns s.heap.objs.size m->(sc.names.lookup x=some .local->m x=some u)->(sc.names.lookup x=some .cell->h'.IsCell (s.heap.objs.size+1) (some u))->
   Q (newEnv sc s.heap.objs.size g (d3 sc s.heap.objs.size y c) qual fn cd none b) { s with heap:=h',toks:=tk }):
  wpAny M A (newFunctionEnv sc g [(y,c)] [(x,u)] qual fn cd none b) Q E s:=by
 have hk:=S.1;simp only [newFunctionEnv,Option.isSome_none,Bool.false_eq_true,if_false];refine ah (wpAny_alloc ?_);refine ah (wpAny_layCells _ (λ name kind cells=>by cases hkc:kind == NameKind.cell <;> simp [hkc]) _ _ _ _ ?_);rw [show ({ s with heap:=s.heap.push { cls:=.type "frame", data:=.dict #[] } }:Shared).heap.objs.size=s.heap.objs.size+1 from Heap.size_push ..];have hp:∀ b o,s.heap.get? b=some o->(pushCells (s.heap.push { cls:=.type "frame", data:=.dict #[] }) sc.names).get? b=some o:=λ b o q=>pushCells_keeps _ _ _ _ (aU _ q);have hn:(pushCells (s.heap.push { cls:=.type "frame", data:=.dict #[] }) sc.names).Ns s.heap.objs.size λ _=>none:=(Heap.Ns.new s.heap (.type "frame")).keeps (pushCells_keeps _ _);refine ah ?_;rw [List.forIn_cons];refine ah (ah ?_);rcases S.2.2.2.2.2.2 with ⟨hx,hc⟩ | ⟨hx,hc⟩
 ·refine wpAny_storeName_local (env:=newEnv sc s.heap.objs.size g (d3 sc s.heap.objs.size y c) qual fn cd none b) hx hn (λ h' hn' hs'=>aC ?_) (by show (sc.kind == .class || (sc.kind == .module && _))=false;rw [hk];rfl);dsimp only;rw [List.forIn_nil];refine aC (aC (h _ _ _ (λ b o q=>hs'.extBut b o (Nat.ne_of_lt (Heap.lt_size q)) (hp b o q)) hn' (λ _=>by simp) λ z=>?_));rw [z] at hx;cases hx
 ·have ok:=cellsFrom_ok sc.names (s.heap.push { cls:=.type "frame", data:=.dict #[] }) (s.heap.objs.size+1) [] ⟨λ _ _ hm=>(nomatch hm),List.Pairwise.nil⟩ (by rw [Heap.size_push];exact Nat.le_refl _);rw [Heap.size_push] at ok;have cx:(cellsFrom (s.heap.objs.size+1) sc.names []).lookup x=some (s.heap.objs.size+1):=by
   have app:∀ (ns:List (Str × NameKind)) (n:Nat) (a b:List (Str × Addr)),cellsFrom n ns (a++b)=cellsFrom n ns a++b:=by
    intro ns;induction ns with
    | nil=>exact λ _ _ _=>rfl
    | cons p r ih=>
     intro n a b;unfold cellsFrom
     split
     ·exact ih (n+1) ((p.1,n)::a) b
     ·exact ih n a b
   have q:=hc (s.heap.objs.size+1) c;rw [show [(y,c)]=[]++[(y,c)] from rfl,app] at q;have q2:cellsFrom (s.heap.objs.size+1) sc.names []=[(x,s.heap.objs.size+1)]:=List.append_cancel_right (bs:=[(y,c)]) q;rw [q2];simp
  have ce:=(ok.empty _ _ (PySem.mem_of_lookup cx)).1;refine wpAny_storeName_cell (env:=newEnv sc s.heap.objs.size g (d3 sc s.heap.objs.size y c) qual fn cd none b) hk hx (S.cellx _ _ hx) ce λ h' hc' hs'=>aC ?_;dsimp only;rw [List.forIn_nil];refine aC (aC (h _ _ _ (λ b o q=>hs'.extBut b o (Nat.ne_of_lt (Nat.lt_succ_of_lt (Heap.lt_size q))) (hp b o q)) (hn.sameBut hs' (Nat.ne_of_lt (Nat.lt_succ_self _))) (λ z=>?_) λ _=>hc'));rw [z] at hx;cases hx
noncomputable def fW(qual:Str)(sc:Scope)(L l:Addr)(cd:Value)(y:Str)(c:Addr):Env:=newEnv sc L mainGlobals (d3 sc L y c) (qual ++ ".<locals>.") (some l) cd none builtinsNs
noncomputable def gr(CX:CXT)(P:Program)(w:World)(K:W.Frag)(mg:Str->Option Value)(base:Heap)(x y:Str)(qual:Str)(sc:Scope)(l:Addr)(cd:Value)(c:Addr)(A:Around)(outer:List Env)(s:Shared)(H:Hp)(E:XK):Cx where
 prog:=P
 w:=w
 K:=K
 mg:=mg
 base:=base
 A:=A.deeper (fW qual sc s.heap.objs.size l cd y c)
 N:=[x,y]
 s₀:=s
 H₀:=H
 env:=fW qual sc s.heap.objs.size l cd y c
 outer:=outer
 stack:=fW qual sc s.heap.objs.size l cd y c::outer
 ex:=[]
 calm:=true
 fn:=λ z=>decide (z=x)
 pn:=[]
 xe:=λ e s'=>wpAny (model P w) (A.deeper (fW qual sc s.heap.objs.size l cd y c)) (leaving (fW qual sc s.heap.objs.size l cd y c) e) (λ _ s''=>CX outer H s E e s'') (λ e' s''=>CX outer H s E e' s'') s'
section
variable {l:Addr} {E:XK}
theorem zdN:cz (CXr P w) (gr (CXr P w) P w K mg base x y qual sc l cd c A outer s H E) E:=by
 rintro pins σ H1 s1 e s' I ⟨a,cls,a0,H',B,rfl,os,bare,hfl,ha,u,hok,cond,hE⟩;refine wpAny_leaves_onW (env:=fW qual sc s.heap.objs.size l cd y c) (outer:=outer) I.ok.frames rfl hfl λ h2 x1 x2=>?_;have u2:=u.fly x1.1 x2 cond λ b hb=>by
  obtain ⟨_,o,ho,nf⟩:=hfl.2.2.1.mem hb;exact ⟨o,ho,nf⟩
 have I2:=I.call' (s':={ s' with heap:=h2 }) os u2 (hok.kept x1.1) bare λ b hb=>absurd hb (by simp);refine ⟨a,cls,a0,H',B,rfl,I2.os,bare,x1,ha,I2.base,hok,λ b o e hb=>?_,hE⟩;have notL:b∉frs (gr (CXr P w) P w K mg base x y qual sc l cd c A outer s H E).stack:=λ hs=>by
  rcases al_mc.mp (I.stkSub b hs) with z | z
  ·have:=Heap.lt_size e;exact absurd (Nat.lt_of_lt_of_le this I.ok.above) (by rw [z];exact Nat.lt_irrefl _)
  ·exact hb z
 obtain ⟨o1,e1⟩:=I.base.there b o e (by intro z;exact absurd (show b∈([]:List Addr) from z) (by simp));obtain ⟨o',e',q⟩:=cond b o1 e1 notL;refine ⟨o',e',λ n=>?_⟩;have k:=I.base.keep b o e n hb (by intro z;exact absurd (show b∈([]:List Addr) from z) (by simp));rw [e1] at k;rw [q (I.base.free b o e n (by intro z;exact absurd (show b∈([]:List Addr) from z) (by simp)))];exact Option.some.inj k
theorem zR{uz:Value}{v z:V}{oc:Obj}(S:LamSc sc x y)(hd:A.handled=none)(e0:Env0 P w K mg base A outer s H)(ec:s.heap.get? c=some oc)(hc:oc.data = .cell (some uz))(nc:H c=none)(rz:RelV z uz)(rv:RelV v u)(hk:∀ b o,s.heap.get? b=some o->h1.get? b=some o)(hn:h1.Ns s.heap.objs.size m)(hl:sc.names.lookup x=some .local->m x=some u)(hcx:sc.names.lookup x=some .cell->h1.IsCell (s.heap.objs.size+1) (some u)):
  Inv (gr CX P w K mg base x y qual sc l cd c A outer s H E) [] [some v,some z] H { s with heap:=h1,toks:=tk }:=by
 have noA:∀ b:Addr,b∉(gr CX P w K mg base x y qual sc l cd c A outer s H E).ex:=λ b z=>absurd (show b∈([]:List Addr) from z) (by simp);have lc:c < s.heap.objs.size:=Heap.lt_size ec;have hcell:h1.IsCell c (some uz):=⟨oc,hk _ _ ec,hc⟩
 refine ⟨⟨e0.mod,S.1,rfl,rfl,Nat.le_refl _,λ a b d h1 h2=>?_,λ a ha=>?_,λ a d hf h=>?_,λ _=>hd,Around.frames_deeper e0.frames,.inr ⟨rfl,rfl⟩,λ b z=>absurd z (noA b),e0.bs,e0.bsz,λ b _ _=>noA b,λ b z=>absurd z (noA b),e0.funs,e0.frf⟩,
  rfl,e0.bare,Un.kept hk,⟨m,hn,λ i a t h1 h2 h3=>?_⟩,λ a d h=>?_,e0.hok.fresh (Nat.le_refl _),λ a d h=>?_,λ p hp=>absurd (show p∈([]:List (Addr × Obj)) from hp) (by simp),e0.hok.kept hk,rfl⟩
 ·rcases S.cells _ _ h1 with ⟨r1,r2⟩ | ⟨r1,r2,_⟩ <;> rcases S.cells _ _ h2 with ⟨r3,r4⟩ | ⟨r3,r4,_⟩
  ·rw [r1,r3]
  ·exact absurd (r2.symm.trans r4) (Nat.ne_of_lt (Nat.lt_succ_of_lt lc))
  ·exact absurd (r4.symm.trans r2) (Nat.ne_of_lt (Nat.lt_succ_of_lt lc))
  ·rw [r1,r3]
 ·have ha':sc.names.lookup a=some .cell\/sc.names.lookup a=some .free:=ha;have hm:a=x\/a=y:=by
   rcases ha' with q | q
   ·exact S.2.2.2.2.2.1 _ (PySem.mem_of_lookup q) (.inl rfl)
   ·exact S.2.2.2.2.2.1 _ (PySem.mem_of_lookup q) (.inr rfl)
  rcases hm with hax | hay
  ·rw [hax] at ha' ⊢;rcases S.2.2.2.2.2.2 with ⟨q,_⟩ | ⟨q,_⟩
   ·rw [q] at ha';rcases ha' with z | z <;> cases z
   ·exact ⟨_,S.cellx _ _ q⟩
  ·rw [hay];exact ⟨c,S.celly _ _⟩
 ·have hf:decide (a=x)=true:=hf;rcases S.cells _ _ h with ⟨r1,r2⟩ | ⟨r1,r2,_⟩
  ·exact absurd ((of_decide_eq_true hf).symm.trans r1) S.2.2.2.1
  ·rw [r2];exact Nat.le_succ _
 ·have h3:sc.names.lookup a=some .local\/sc.names.lookup a=some .cell\/sc.names.lookup a=some .free:=h3
  match i,h1,h2 with
  | 0,h1,h2=>
   cases h1;cases h2;refine ⟨u,rv,?_⟩;rcases S.2.2.2.2.2.2 with ⟨q,_⟩ | ⟨q,_⟩
   ·exact .inl ⟨q,hl q⟩
   ·exact .inr ⟨.inl q,_,S.cellx _ _ q,hcx q⟩
  | 1,h1,h2=>
   cases h1;cases h2;exact ⟨uz,rz,.inr ⟨.inr S.2.2.2.2.1,c,S.celly _ _,hcell⟩⟩
  | i+2,h1,h2=>simp at h2
 ·rcases S.cells _ _ h with ⟨r1,r2⟩ | ⟨r1,r2,q⟩
  ·rw [r2];exact ⟨_,hcell⟩
  ·rw [r2];exact ⟨_,hcx q⟩
 ·rcases S.cells _ _ h with ⟨r1,r2⟩ | ⟨r1,r2,q⟩
  ·rw [r2];exact nc
  ·rw [r2];exact e0.hok.fresh (Nat.le_succ _)
end
noncomputable def jH(CX:CXT):Prop:=∀ {outer:List Env} {H:Hp} {s:Shared} {E:XK} {e:Value} {s':Shared} {c:Addr} {oc:Obj},H c=some (FrO oc c)->s.heap.get? c=some oc->c∉frs outer->
 CX outer (del H c) s (λ a b H2=>E a b (upd H2 c (FrO oc c))) e s'->CX outer H s E e s'
noncomputable def lG(CX:CXT):Prop:=∀ {outer:List Env} {H:Hp} {s:Shared} {E:XK} {e:Value} {s':Shared} {c:Addr} {oc:Obj},H c=none->s.heap.get? c=some oc->
 CX outer (upd H c (FrO oc c)) s (λ a b H2=>E a b (del H2 c)) e s'->CX outer H s E e s'
theorem zeM:jH CX0:=λ _ _ _ h=>h.elim
theorem zgu:lG CX0:=λ _ _ h=>h.elim
theorem zeN   : jH (CXr P w):=by
 rintro outer H s E e s' c oc ec hc nf ⟨a,cls,a0,H',B,rfl,os,bare,hfl,ha,u,hok,cond,hE⟩;have Bc:B.get? c=some oc:=by
  obtain ⟨o',e',q⟩:=cond c oc hc nf;rw [← q gs];exact e'
 have nc:H' c=none:=u.free c oc hc gs (by simp);have ac:a≠c:=λ z=>by
  have:=hfl.2.1;rw [z,Bc] at this;cases this
 refine ⟨a,cls,a0,upd H' c (FrO oc c),B,rfl,os,bare,hfl,by rw [ai ac];exact ha,u.refr ec,hok.frO nc Bc,λ b o q hb=>?_,hE⟩;obtain ⟨o',e',q'⟩:=cond b o q hb;refine ⟨o',e',λ n=>q' ?_⟩;rw [c5 λ z=>by subst z;rw [ec] at n;cases n];exact n
theorem zgv   : lG (CXr P w):=by
 rintro outer H s E e s' c oc nc hc ⟨a,cls,a0,H',B,rfl,os,bare,hfl,ha,u,hok,cond,hE⟩;have e1:H' c=some (FrO oc c):=u.frzs c _ _ af;have Bc:B.get? c=some oc:=hok.at e1;refine ⟨a,cls,a0,del H' c,B,rfl,os,bare,hfl,?_,u.thaw nc hc (hfl.1 _ _ Bc),hok.del e1,λ b o q hb=>?_,hE⟩
 ·unfold del
  split
  ·rfl
  ·exact ha
 ·obtain ⟨o',e',q'⟩:=cond b o q hb;refine ⟨o',e',λ n=>?_⟩;by_cases z:b=c
  ·subst z;rw [hc] at q;cases q;rw [Bc] at e';cases e';rfl
  ·exact q' (by rw [ai z];exact n)
noncomputable def xg(H:Hp)(l:Addr)(qual:Str)(ar:Arguments)(body:Expr)(sc:Scope)(cl:List (Str × Addr))(pm:Value)(c:Addr)(ctv:Value):Prop:=
 H l=some (FrO (W.kla_obj "<lambda>" qual ar body sc cl pm c ctv) l)/\CdH H c qual
noncomputable def uP(qual:Str)(ar:Arguments)(body:Expr)(sc:Scope)(l:Addr)(y:Str)(c:Addr)(pm:Value)(c':Addr)(ctv:Value)(sb:V->V->Hp->VK->XK->Prop):Sp:=λ vs H Q E=>
 ∃ v z oc u,vs=[v]/\xg H l qual ar body sc [(y,c)] pm c' ctv/\H c=some (FrO oc c)/\oc.data = .cell (some u)/\RelV z u/\
  sb v z (del H c) (λ r H2=>H2 c=none->Q r (upd H2 c (FrO oc c))) (λ a b H2=>E a b (upd H2 c (FrO oc c)))
theorem yV{k:Nat}{l:Addr}{body:Expr}{sb:V->V->Hp->VK->XK->Prop}(S:LamSc sc x y)(R:jH CX)(hbody:∀ (A:Around) (outer:List Env) (s:Shared) (H:Hp) (v z:V) (Q:VK) (E:XK),Room k (A.deeper (fW qual sc s.heap.objs.size l (.ref c') y c))->sb v z H Q E->
   ∃ t,PE (gr CX P w K mg base x y qual sc l (.ref c') c A outer s H E) body t/\t [some v,some z] H Q):
  FnOk P w K mg base CX (k+1) l (W.kla_fn "<lambda>" qual ar body sc [(y,c)] pm (.ref c') ctv) [x] (uP qual ar body sc l y c pm c' ctv sb):=by
 refine ⟨λ vs H Q E ⟨_,_,_,_,e,_⟩=>by rw [e];rfl,λ A outer s H args us vs Q E hr e0 hb r hsp=>?_⟩;obtain ⟨v,z,oc,u,rfl,⟨el,ocd,fs,t,ecd,hd,hv⟩,ec,hc,rz,hsb⟩:=hsp;obtain ⟨uv,rfl,rv⟩:=db r;have hlo:=e0.hok.at el;have hco:=e0.hok.at ec;have nf:c∉frs outer:=λ q=>by rw [e0.frf c q] at ec;cases ec
 have lim:s.heap.NoLimit:=e0.mod.nolimit.keeps λ b o e=>(e0.bs b o e).1;refine W.kla_callFunE hr.depth hlo rfl S.2.1 S.2.2.1 rfl ⟨c',_,fs,t,rfl,e0.hok.at ecd,hd,hv⟩ (hb _ _ _ _ ?_);refine zb2 S λ h1 tk m hk hn hl hcx=>⟨lim.keeps hk,W.kla_codeExpr ?_⟩
 have dn:∀ {b:Addr},H b=none->del H c b=none:=λ q=>by
  unfold del
  split
  ·rfl
  ·exact q
 have e1:Env0 P w K mg base A outer s (del H c):=⟨e0.frames,e0.mod,λ b o q=>⟨(e0.bs b o q).1,dn (e0.bs b o q).2⟩,e0.bsz,e0.funs,λ b q=>dn (e0.frf b q),e0.hok.del ec,e0.bare⟩
 obtain ⟨t,ht,hq⟩:=hbody A outer s (del H c) v z _ _ (hr.deeper _) hsb;have I:Inv (gr CX P w K mg base x y qual sc l (.ref c') c A outer s (del H c) (λ a b H2=>E a b (upd H2 c (FrO oc c)))) [] [some v,some z] (del H c) { s with heap:=h1,toks:=tk }:=
  zR S hr.hd e1 hco hc gs rz rv hk hn hl hcx
 refine wpAny_mono (ht [] _ _ _ _ I hq) (λ u' s' ⟨r,H2,J,rr,q⟩=>?_) λ e s' hs=>wpAny_mono hs (λ _ s2 q=>R ec hco nf q) λ e2 s2 q=>R ec hco nf q;have nc:=J.base.free c oc hco gs nofun;exact ⟨r,upd H2 c (FrO oc c),J.os,J.bare,J.base.refr ec,J.hok.frO nc (J.base.keep c oc hco gs nf nofun),rr,q nc⟩
section
variable {k:Nat} {E:XK} {t:TA}
noncomputable def zf2(i:Nat)(c:Addr)(sp:Sp)(E:XK)(t:TA):TE:=λ σ H Q=>t σ H λ vs H1=>∃ v,σ[i]?=some (some v)/\
 ∀ oc u,H1 c=none->oc.data = .cell (some u)->RelV v u->sp vs (upd H1 c (FrO oc c)) (λ r H2=>Q r (del H2 c)) λ a b H2=>E a b (del H2 c)
theorem Cal.peZ(C:Cal X.prog X.w X.K X.mg X.base CX k x ps sp)(hr:Room j X.A)(hx:cz CX X E)(TH:lG CX)(ha:PA X (e::es) t)(hN:X.N[i]?=some y)(hy:X.env.scope.names.lookup y=some .cell)(hc:X.env.cells.lookup y=some c)(hfn:X.fn y=true)(hj:k<=j:=by decide)(hg:Gl X x:=by rfl)(hdb:(x == ("__debug__" : Str))=false:=by decide)(he:starEach (e::es) X.env=(false,eval e X.env)::starEach es X.env:=by rfl)(hpl:(backTo pos (starEach es X.env)).any (·.1)=false:=by rfl):
  PE X (.Call (.Name x p) (e::es) [] pos) (zf2 i c sp E t):=by
 obtain ⟨f,fd,F,hm,hk,hb⟩:=C;intro pins s σ H Q I h;refine wpAny_Call_Name_kw (eD I hg hm ?_ hdb);refine W.callWith_K (h₀:=X.base) I.ok.mod.kin hk (thn (ha pos pins s σ H _ I h) λ us s1 ⟨vs,H1,I1,r,v,ev,q⟩=>⟨I1.kIn,?_⟩) he hpl;have nc:=I1.freeC y c hc;obtain ⟨m,hn,hl⟩:=I1.loc;obtain ⟨u,ru,lk⟩:=hl i y v hN ev (.inr (.inl hy));have hcell:s1.heap.IsCell c (some u):=by
  rcases lk with ⟨q1,_⟩ | ⟨_,c2,q2,q3⟩
  ·exact absurd (hy.symm.trans q1) (by simp)
  ·rw [hc] at q2;cases q2;exact q3
 obtain ⟨oc,eo,ed⟩:=hcell;have q:=q oc u nc ed ru;have lo:X.s₀.heap.objs.size<=c:=I1.ok.cab y c hfn hc;have n1:∀ {b:Addr},b < X.s₀.heap.objs.size->H1 b=none->upd H1 c (FrO oc c) b=none:=λ hb n=>by
  rw [ai (Nat.ne_of_lt (Nat.lt_of_lt_of_le hb lo))];exact n
 have e0:=I1.env0;have e1:Env0 X.prog X.w X.K X.mg X.base X.A X.stack s1 (upd H1 c (FrO oc c)):=by
  refine ⟨e0.frames,e0.mod,λ b o q=>⟨(e0.bs b o q).1,n1 (Nat.lt_of_lt_of_le (Heap.lt_size q) I1.ok.bsz) (e0.bs b o q).2⟩,e0.bsz,e0.funs,λ b hb=>?_,e0.hok.frO nc eo,e0.bare⟩;rcases al_mc.mp (I1.stkSub b hb) with z | z
  ·rw [ai (by rw [z];exact (I1.cne y c hc).symm)];exact e0.frf b hb
  ·obtain ⟨_,o,ho,_⟩:=I1.ok.funs.mem z;exact n1 (Heap.lt_size ho) (e0.frf b hb)
 have hlen:us.length=ps.length:=by rw [← r.length];exact F.len _ _ _ _ q
 have hbs:=hb s1 us I1.kIn (by rw [List.append_nil];exact hlen);rw [List.append_nil] at hbs;refine wpAny_call (codeAny_mono (F.run X.A X.stack s1 _ ⟨us,[]⟩ us vs _ _ (hr.mono hj) e1 hbs r q) λ rr s' hq=>?_);cases rr with
 | error e=>exact hx pins σ H1 s1 e s' I1 (TH nc eo hq)
 | ok fl=>
  cases fl with
  | ret u2=>
   obtain ⟨v2,H2,os,bare,un,hok,r2,q2⟩:=hq;have e2:=un.frzs c _ _ af;exact I1.after ⟨v2,del H2 c,os,bare,un.thaw nc eo (hok.at e2),hok.del e2,r2,q2⟩
  | next=>exact False.elim hq
  | brk=>exact False.elim hq
  | cont=>exact False.elim hq
noncomputable def FnV(K:W.Frag)(H:Hp)(l:Addr):Prop:=(∃ oc od fd sl,K.lookup l=some ⟨oc,od,.func fd,sl⟩)\/∃ oc od fd sl,H l=some (FrO ⟨oc,od,.func fd,sl⟩ l)
theorem FnV.at{pins:List (Addr × Obj)}{σ:St}{H:Hp}{s:Shared}{l:Addr}(I:Inv X pins σ H s)(h:FnV X.K H l):W.FnAt l s.heap:=by
 rcases h with ⟨oc,od,fd,sl,e⟩ | ⟨oc,od,fd,sl,e⟩
 ·exact ⟨oc,od,fd,sl,I.kIn _ _ e⟩
 ·exact ⟨oc,od,fd,sl,I.hok.at e⟩
noncomputable def zf1(P:Program)(w:World)(K:W.Frag)(mg:Str->Option Value)(base:Heap)(CX:CXT)(k:Nat)(i:Nat)(E:XK)(t:TA):TE:=λ σ H Q=>∃ l fd ps sp,σ[i]?=some (some (.ref l))/\FnV K H l/\FnOk P w K mg base CX k l fd ps sp/\Binds K fd ps []/\
 t σ H λ vs H1=>FnV K H1 l/\sp vs H1 Q E
theorem mU(P:Program)(w:World)(K:W.Frag)(mg:Str->Option Value)(base:Heap)(k:Nat)(hr:Room j X.A)(hx:cz CX X E)(ha:PA X (e::es) t)(hn:PE X (.Name x p) (b8 i))(hj:k<=j)(h1:X.prog=P:=by rfl)(h2:X.w=w:=by rfl)(h3:X.K=K:=by rfl)(h4:X.mg=mg:=by rfl)(h5:X.base=base:=by rfl)(he:starEach (e::es) X.env=(false,eval e X.env)::starEach es X.env:=by rfl)(hpl:(backTo pos (starEach es X.env)).any (·.1)=false:=by rfl):
  PE X (.Call (.Name x p) (e::es) [] pos) (zf1 P w K mg base CX k i E t):=by
 subst h1 h2 h3 h4 h5;rintro pins s σ H Q I ⟨l,fd,ps,sp,e1,v1,F,hb,h⟩;refine wpAny_Call_Name_kw (thn (hn pins s σ H (λ v H'=>v = .ref l/\H'=H) I ⟨_,e1,rfl,rfl⟩) λ u s1 ⟨v,H',I1,rv,ev,eH⟩=>?_);subst ev;subst eH;obtain rfl:u=Value.ref l:=rv;refine W.callWith_F (v1.at I1) (thn (ha pos pins s1 σ _ _ I1 h) λ us s2 ⟨vs,H2,I2,r,v2,q⟩=>⟨v2.at I2,?_⟩) he hpl;exact ji F (hr.mono hj) hb .nil hx I2 r (by rw [List.append_nil];exact q)
end
noncomputable def lF(H:Hp)(ts:List Addr):Prop:=∀ p∈ts,H p=some (.tbl #[])
section
variable {mb:Str->Option Value} {k:Nat} {fa:Addr} {s₁:Shared}
theorem zat(KX:K.In s₁.heap)(hns:s₁.heap.Ns mainGlobals mg)(hb:s₁.heap.Ns builtinsNs mb)(hbb:∀ x:Str,x ≠ "__name__" -> mb x=bootBuiltins x)(hlim:s₁.heap.NoLimit)(hg:s₁.gens = #[])(hbm:fe s₁.heap mg)(ha:s₁.heap.get? a=some { cls:=.type "list", data:=.seq vs.toArray })(hi:IntsAre vs ns)(hl:ns.length<=sizeLine)(hr:Room k callerA)(ht:∀ p∈ts,s₁.heap.get? p=some (W.tabObj #[])/\K.lookup p=none/\∃ c,W.codeHdIn K c p=true)(F:∀ base:Heap,K.In base->base.Ns mainGlobals mg->fe base mg->FnOk P w K mg base CX k fa fd [x] sp)(hbind:∀ (s:Shared) (u:Value),BindsTo s fd ⟨[u],[]⟩ [(x,u)])(hsp:∀ H:Hp,lF H ts->SqL K H a (ns.map V.int)->sp [.ref a] H (λ v _=>v = .bl true) λ _ _ _=>False)(hCX:∀ H e s',CX [] H s₁ (λ _ _ _=>False) e s'->False):
  codeAny (model P w) callerA (.call (.ref fa) ⟨[.ref a],[]⟩) (λ r s'=>r = .ok (.ret (.bool true))/\OldK s₁.heap s'.heap/\s'.os=s₁.os/\AllBare s'.gens) s₁:=by
 have rv:=we hi;let so:HO:=.frz { cls:=.type "list", data:=.seq vs.toArray } (.lst (ns.map V.int));let H:Hp:=λ b=>if b∈ts then some (.tbl #[]) else if b=a/\K.lookup a=none then some so else none
 have ea:a∉ts:=λ m=>by
  have:=(ht a m).1;rw [ha] at this;cases this
 have Ht:∀ {b},b∈ts->H b=some (.tbl #[]):=λ m=>if_pos m;have Hk:∀ {b u},H b=some u->(b∈ts/\u = .tbl #[])\/(b=a/\K.lookup a=none/\u=so):=λ {b u} e=>by
  by_cases m:b∈ts
  ·rw [Ht m] at e;cases e;exact .inl ⟨m,rfl⟩
  ·by_cases z:b=a/\K.lookup a=none
   ·have e:(if b∈ts then some (HO.tbl #[]) else if b=a/\K.lookup a=none then some so else none)=some u:=e;rw [if_neg m,if_pos z] at e;cases e;exact .inr ⟨z.1,z.2,rfl⟩
   ·have e:(if b∈ts then some (HO.tbl #[]) else if b=a/\K.lookup a=none then some so else none)=some u:=e;rw [if_neg m,if_neg z] at e;cases e
 have free:∀ {b o},s₁.heap.get? b=some o->o.cls≠.none->o.cls≠.type "list" -> H b=none:=λ {b o} e n1 n2=>by
  cases q:H b with
  | none=>rfl
  | some u=>
   rcases Hk q with ⟨m,_⟩ | ⟨z,_⟩
   ·have:=(ht b m).1;rw [e] at this;cases this;exact absurd rfl n1
   ·rw [z,ha] at e;cases e;exact absurd rfl n2
 have freeD:∀ {b o es ep},s₁.heap.get? b=some o->o.data = .dict es ep->H b=none:=λ {b o es ep} e d=>by
  cases q:H b with
  | none=>rfl
  | some u=>
   rcases Hk q with ⟨m,_⟩ | ⟨z,_⟩
   ·have:=(ht b m).1;rw [e] at this;cases this;cases d
   ·rw [z,ha] at e;cases e;cases d
 have nsK:∀ {b m},s₁.heap.Ns b m->(ft s₁.heap H).Ns b m:=λ {b m} ⟨o,es,ep,e,d,r⟩=>⟨o,es,ep,mw e (freeD e d),d,r⟩
 have hK:K.In (ft s₁.heap H):=λ b o e=>mw (KX b o e) (by
  cases q:H b with
  | none=>rfl
  | some u=>
   rcases Hk q with ⟨m,_⟩ | ⟨z,n,_⟩
   ·rw [(ht b m).2.1] at e;cases e
   ·rw [z,n] at e;cases e)
 have hok:HOk P w H s₁.heap:=λ b u e=>by
  rcases Hk e with ⟨m,rfl⟩ | ⟨rfl,_,rfl⟩
  ·exact (ht b m).1
  ·exact ⟨ha,by rw [ag];exact hl,vs,_,rv,ha⟩
 have hM:Mod K mg (ft s₁.heap H):=⟨hK,nsK hns,⟨mb,nsK hb,hbb⟩,let ⟨mc,h1,h2⟩:=hlim;⟨mc,nsK h1,h2⟩⟩
 have hB:fe (ft s₁.heap H) mg:=let ⟨bm,ob,b1,b2,b3,b4,r⟩:=hbm;⟨bm,ob,b1,b2,mw b3 (free b3 (by rw [b4];nofun) (by rw [b4];exact λ z=>absurd (Value.type.inj z) (by decide))),b4,r⟩;have e0:Env0 P w K mg (ft s₁.heap H) callerA [] s₁ H:=⟨rfl,hM,λ b o e=>zce e,Nat.le_of_eq (zp _ _),trivial,λ b hb=>absurd (show b∈([]:List Addr) from hb) (by simp),hok,.of_eq hg⟩
 have sq:SqL K H a (ns.map V.int):=by
  cases hk:K.lookup a with
  | none=>exact .inl (.inr ⟨_,by show (if a∈ts then _ else if a=a/\K.lookup a=none then _ else _)=_;rw [if_neg ea,if_pos ⟨rfl,hk⟩]⟩)
  | some o=>
   have e:=KX a o hk;rw [ha] at e;cases e;exact .inr ⟨_,vs.toArray,_,hk,rfl,rfl,rfl,by rw [aW,hi.length];exact hl,by simpa using rv⟩
 refine codeAny_mono ((F _ hK (nsK hns) hB).run callerA [] s₁ H ⟨[.ref a],[]⟩ [.ref a] [.ref a] _ _ hr e0 (hbind s₁ (.ref a)) (.cons rfl .nil) (hsp H (λ p m=>Ht m) sq)) λ r s' h=>?_;cases r with
 | error e=>exact (hCX H e s' h).elim
 | ok fl=>
  cases fl with
  | next=>exact False.elim h
  | brk=>exact False.elim h
  | cont=>exact False.elim h
  | ret u=>
   obtain ⟨v,H',os,bare,un,hok',r',q⟩:=h;have q':v = .bl true:=q;subst q';obtain rfl:u=Value.bool true:=r';refine ⟨rfl,⟨λ b o e=>?_,λ b o e=>un.there b o e (by simp)⟩,os,bare⟩;cases q:H b with
   | none=>exact .inl (un.keep b o e q (by intro z;exact absurd (show b∈([]:List Addr) from z) (by simp)) (by simp))
   | some u=>
    rcases Hk q with ⟨m,rfl⟩ | ⟨z,_,rfl⟩
    ·obtain ⟨more,e2⟩:=un.tbls b _ q;obtain ⟨g1,_,c,g2⟩:=ht b m;have t1:=(W.codeHd_of_K KX g2).tab g1;rw [e] at g1;cases g1;exact .inr (.inl ⟨t1.isCodeTable,rfl,#[],more,rfl,hok' b _ e2⟩)
    ·have e2:=un.frzs b _ _ q;have e3:=(hok' b _ e2).1;have e4:=(hok b _ q).1;rw [e] at e4;cases e4;exact .inl e3
end
theorem zgR{l:W.OpenLaw}{k:Nat}{d:DefRec}{K:Params->W.Frag}{sp:W.Frag->List Addr->Sp}(hn:l.most=some n)(hn2:n<=sizeLine)(hdf:d.params.defaults=[])(hr:Room k callerA)(hY:∀ (w:World) (h:Heap),YP w h->(K w.params).In h)(hT:∀ (w:World) (h:Heap),YP w h->∀ p∈ts,h.get? p=some (W.tabObj #[]))(F:∀ (w:World) (mg:Str->Option Value) (fa:Addr) (h:Heap),(K w.params).In h->h.Ns mainGlobals mg->mg d.name=some (.ref fa)->
   (∀ p∈ts,(K w.params).lookup p=none/\∃ c,W.codeHdIn (K w.params) c p=true)/\∃ fd:FuncData,(∀ (s:Shared) (u:Value),BindsTo s fd ⟨[u],[]⟩ [(x,u)])/\
    ∀ base:Heap,(K w.params).In base->base.Ns mainGlobals mg->fe base mg->FnOk l.prog w (K w.params) mg base CX k fa fd [x] (sp (K w.params) ts))(hsp:∀ (K:W.Frag) (H:Hp) (a:Addr) (ns:List Int),ns.length<=n->lF H ts->SqL K H a (ns.map V.int)->sp K ts [.ref a] H (λ v _=>v = .bl true) λ _ _ _=>False)(hCX:∀ (H:Hp) (s:Shared) (e:Value) (s':Shared),CX [] H s (λ _ _ _=>False) e s'->False):
  W.WalkO q loose XP YP l.row.toRowW d [] (λ f vs=>PySem.call f vs):=by
 refine Att.attach_call hn hdf λ w s₀ s₁ mg mb fa o pm cd doc a vs ns G Y ho hd hcd hmg hobj hints hlen hg=>?_;have KX:=hY w _ Y;obtain ⟨ht,fd,hb,hF⟩:=F w mg fa _ KX G.T.g hmg;exact zat KX G.T.g G.T.b G.T.builtins G.T.nolimit hg G.T.bmain hobj hints (Nat.le_trans hlen hn2) hr (λ p m=>⟨hT w _ Y p m,ht p m⟩) hF hb (λ H hO hS=>hsp _ H a ns hlen hO hS) λ H e s'=>hCX H s₁ e s'
structure FunC (K:W.Frag) (x qual:Str) (st:Stmt) (f:Addr) (fd:FuncData) (c T:Addr):Prop where
 ex:∃ (oc:Value) (od:Option Addr) (kV doc pm:Value) (an:Option Addr) (ct:Value) (osl:Array (Option Value)),
  fd=W.fnOf x qual (c4 st) (cu st) (av st) .none kV doc pm an (.ref c) ct/\K.lookup f=some ⟨oc,od,.func fd,osl⟩/\W.codeIn K (.ref c) qual=true
 hd:W.codeHdIn K c T=true
section
variable {f T:Addr} {k:Nat}
theorem FunC.ok(F:FunC K x qual st f fd c T)(S:aA N ps (av st))(len:∀ vs H Q E,sp vs H Q E->vs.length=ps.length)(hbody:∀ (A:Around) (outer:List Env) (s:Shared) (H:Hp) (vs:List V) (Q:VK) (E:XK),Room k (A.deeper (envOfC qual (av st) s.heap.objs.size f (.ref c)))->sp vs H Q E->
   ∃ t,PSs (cI CX P w K mg base N qual (av st) f (.ref c) A outer s H E) (cu st) t/\t { nx:=λ _ H'=>Q .non H',rt:=Q } (fb N vs) H):FnOk P w K mg base CX (k+1) f fd ps sp:=by
 obtain ⟨oc,od,kV,doc,pm,an,ct,osl,rfl,lk,hcd⟩:=F.ex;exact ma lk hcd S len λ A outer s H vs Q E hr hsp=>hbody A outer s H vs Q E hr hsp
end
noncomputable def DcK(w:World)(K:W.Frag)(mg:Str->Option Value)(x:Str)(L:List (Str × V)):Prop:=
 ∃ (a:Addr) (es:Array DictEntry) (n:Nat),mg x=some (.ref a)/\(a == sysModules)=false/\K.lookup a=some ⟨.type "dict", none,.dict es n,#[]⟩/\W.KeysLit w.params es.toList/\∀ y,RelO (L.lookup y) (findBy Value.isStrOf es y)
noncomputable def lB:List DictEntry->List (Str × V)->Prop
 | [],[]=>True
 | e::r,(x,v)::l=>(∃ t,e.key = .str x t)/\RelV v e.val/\lB r l
 | _,_=>False
theorem rP:∀ {es:List DictEntry} {L:List (Str × V)},lB es L->∀ y,RelO (L.lookup y) ((es.find? λ e=>Value.isStrOf y e.key).map (·.val))
 | [],[],_,_=>trivial
 | e::r,(x,v)::l,⟨⟨t,hk⟩,hv,hr⟩,y=>by
  rw [List.lookup_cons,List.find?_cons,hk];by_cases h:y=x
  ·subst h;rw [show (y == y)=true by simp,show Value.isStrOf y (.str y t)=true by simp [Value.isStrOf]];exact hv
  ·rw [show (y == x)=false by simpa using h,show Value.isStrOf y (.str x t)=false by simp [Value.isStrOf];exact λ z=>h z.symm];exact rP hr y
 | [],_::_,h,_=>h.elim
 | _::_,[],h,_=>h.elim
theorem rG{es:List DictEntry}(hm:mg x=some (.ref a))(ha:(a == sysModules)=false)(l:K.lookup a=some ⟨.type "dict", none,.dict ⟨es⟩ n,#[]⟩)(k:W.KeysLit w.params es)(h:lB es L):DcK w K mg x L:=
 ⟨a,⟨es⟩,n,hm,ha,l,k,λ y=>by
  unfold findBy;rw [List.find?_toArray];exact rP h y⟩
section
variable {i:Expr}
noncomputable def zf7(L:List (Str × V))(ti:TE):TE:=λ σ H Q=>ti σ H λ y H1=>∃ z,y = .str z/\Q (.bl (L.lookup z).isSome) H1
noncomputable def zf9(L:List (Str × V))(ti:TE):TE:=λ σ H Q=>ti σ H λ y H1=>∃ z,y = .str z/\Q (.bl (!(L.lookup z).isSome)) H1
noncomputable def zf8(L:List (Str × V))(ti:TE):TE:=λ σ H Q=>ti σ H λ y H1=>∃ z v,y = .str z/\L.lookup z=some v/\Q v H1
theorem DcK.pin(C:DcK X.w X.K X.mg x L)(hi:PE X i ti)(hg:Gl X x:=by rfl)(hdb:(x == ("__debug__" : Str))=false:=by decide):PC X .In i (.Name x p) (zf7 L ti):=by
 obtain ⟨a,es,n,hm,hs,hl,hk,hf⟩:=C;intro pins s σ H Q I h;refine thn (hi pins s σ H _ I h) λ iv s1 ⟨y,H1,I1,ry,z,ey,q⟩=>eD I1 hg hm ?_ hdb;subst ey;obtain ⟨tk,rfl⟩:=ry;have hmap:=W.mapOf_K (prog:=X.prog) (w:=X.w) I1.kIn hl hk;refine wpAny_in_of (strKind_is X.prog X.w z tk) hs hmap ?_;rw [← (hf z).isSome_eq];exact ⟨.bl _,H1,I1.tok _,rfl,q⟩
theorem DcK.pnin(C:DcK X.w X.K X.mg x L)(hi:PE X i ti)(hg:Gl X x:=by rfl)(hdb:(x == ("__debug__" : Str))=false:=by decide):PC X .NotIn i (.Name x p) (zf9 L ti):=by
 obtain ⟨a,es,n,hm,hs,hl,hk,hf⟩:=C;intro pins s σ H Q I h;refine thn (hi pins s σ H _ I h) λ iv s1 ⟨y,H1,I1,ry,z,ey,q⟩=>eD I1 hg hm ?_ hdb;subst ey;obtain ⟨tk,rfl⟩:=ry;have hmap:=W.mapOf_K (prog:=X.prog) (w:=X.w) I1.kIn hl hk;refine wpAny_notIn_of (strKind_is X.prog X.w z tk) hs hmap ?_;rw [← (hf z).isSome_eq];exact ⟨.bl _,H1,I1.tok _,rfl,q⟩
theorem DcK.pix(C:DcK X.w X.K X.mg x L)(hi:PE X i ti)(hg:Gl X x:=by rfl)(hs:jF i:=by (intro _ _;rfl))(hdb:(x == ("__debug__" : Str))=false:=by decide):PE X (.Subscript (.Name x p) i pos) (zf8 L ti):=by
 obtain ⟨a,es,n,hm,_,hl,hk,hf⟩:=C;intro pins s σ H Q I h;refine pM F.slot_dict_getitem.lookup hs (eD I hg hm (thn (hi pins s σ H _ I h) λ iv s1 ⟨y,H1,I1,ry,z,v,ey,ev,q⟩=>?_) hdb);subst ey;obtain ⟨tk,rfl⟩:=ry;have hmap:=W.mapOf_K (prog:=X.prog) (w:=X.w) I1.kIn hl hk;have e:=hf z;rw [ev] at e;obtain ⟨u,eu,ru⟩:∃ u,findBy Value.isStrOf es z=some u/\RelV v u:=by
  cases q2:findBy Value.isStrOf es z with
  | none=>rw [q2] at e;exact e.elim
  | some u=>rw [q2] at e;exact ⟨u,rfl,e⟩
 exact ⟨hmap.typeIs,wpAny_getItem_of (strKind_is X.prog X.w z tk) hmap eu ⟨v,H1,I1.tok _,ru,q⟩⟩
end
theorem zb5:typeLookup (.type "list") "keys" = pure none:=by rw [typeLookup_type,builtinLookup_eq_fast];kernel_rfl
theorem zb6:typeLookup (.type "zip") "keys" = pure none:=by rw [typeLookup_type,builtinLookup_eq_fast];kernel_rfl
theorem zb3:typeLookup (.type "zip") "__getattr__" = pure none:=by rw [typeLookup_type,builtinLookup_eq_fast];kernel_rfl
theorem zb7{xs:Array Value}{k:Nat}{Q:Option Value->Shared->Prop}(hx:s.heap.get? a=some { cls:=.type "list", dict:=none,data:=.seq xs k,slots:=sl })(hA:A.handled=none)(h:∀ h' tk,(∀ b ob,s.heap.get? b=some ob->h'.get? b=some ob)->Q none { s with heap:=h',toks:=tk }):wpAny (model prog w) A (getAttr? (.ref a) "keys") Q E s:=by
 obtain ⟨hp,g,d,tk,os⟩:=s;have hT:∀ tk',(⟨hp,g,d,tk',os⟩:Shared).TypeIs (.ref a) "list" := λ _=>⟨_,hx,rfl⟩
 have f1:=sub_AttributeError;have f3:=F.slot_list_getattribute.lookup;have f4:=F.slot_list_getattribute.bind (.ref a);have f5:=am_list_getattr_none;unfold getAttr? getAttrBy? getAttrBy
 repeat (any_goals (first | assumption | exact hT _ | ((with_reducible show wpAny _ _ (call (Value.builtin "list.__getattribute__") _ _) _ _ _);refine call_meets F.slot_list_getattribute (hT _) am_entry_list_getattribute (F.args_list_getattribute_2 _ _) (meets_getattribute_miss_list a xs k sl "keys" _ zb5 (by decide) (by decide)) ⟨hx,hA,λ h' tk' e hx'=>?_⟩) | wp_step))
 obtain ⟨t',u',he⟩:=hx'.there;show wpAny _ _ (getattributeRaised _ _ _ _ _ _ _) _ _ _;unfold getattributeRaised
 repeat (any_goals (first | assumption | wp_step))
 exact h _ _ hx'.keeps
theorem rO:entryFor table "dict.update.loop" = some Builtin.«dict.update.loop»:=entryFor_of_tree (by kernel_rfl)
theorem kj:plainId "dict.update.loop" = true:=by decide +kernel
structure jG (prog:Program) (w:World) (A:Around) (I d:Addr) (wr:List Addr) (n:Nat) (kv:Nat->Value × Value) (St:Nat->Heap->Prop):Prop where
 nw:d∉wr
 frame:∀ i h h',St i h->(∀ b o,b≠d->h.get? b=some o->h'.get? b=some o)->h.objs.size<=h'.objs.size->St i h'
 item:∀ i (s:Shared) (Q:Option Value->Shared->Prop) (E:Value->Shared->Prop),i < n->St i s.heap->
  (∀ p h' tk,IsTup h' p #[(kv i).1,(kv i).2]->St (i+1) h'->(∀ b o,b∉wr->s.heap.get? b=some o->h'.get? b=some o)->Q (some (.ref p)) { s with heap:=h',toks:=tk })->wpAny (model prog w) A (pyNext (.ref I)) Q E s
 done:∀ (s:Shared) (Q:Option Value->Shared->Prop) (E:Value->Shared->Prop),St n s.heap->
  (∀ h' tk,(∀ b o,b∉wr->s.heap.get? b=some o->h'.get? b=some o)->Q none { s with heap:=h',toks:=tk })->wpAny (model prog w) A (pyNext (.ref I)) Q E s
section
variable [DecidableEq κ] {kn:KeyKind prog w κ} {St:Nat->Heap->Prop}
noncomputable def fT(kk:Nat->κ)(kv:Nat->Value × Value):Nat->List (κ × Value)
 | 0=>[]
 | i+1=>stored (fT kk kv i) (kk i) (kv i).2
theorem yC(W:jG prog w A.in1 I d wr n kv St)(kk:Nat->κ)(hk:∀ i < n,kn.is (kk i) (kv i).1=true)(hz:∀ i,i<=n->(fT kk kv i).length<=sizeLine):
  ∀ (m i:Nat) (s:Shared) (j:Int) (tj:Tok),n - i=m->i<=n->St i s.heap->s.heap.DictOf kn d (fT kk kv i)->
   (∀ h' tk,h'.DictOf kn d (fT kk kv n)->(∀ b o,b∉d::wr->s.heap.get? b=some o->h'.get? b=some o)->R (.ok (.ret .none)) { s with heap:=h',toks:=tk })->
   codeAny (model prog w) A (.builtin "dict.update.loop" { pos:=[.ref d,.ref I,.int j tj,.none] }) R s:=by
 have nW:=W.nw;intro m;induction m with
 | zero=>
  intro i s j tj hm hi st hd q;have e:i=n:=by omega
  subst e;refine codeAny_builtin rO ?_;rw [Around.under_plainId kj _];refine ah (m:=pyNext (.ref I)) (W.done s _ _ st λ h' tk k=>?_);refine ah (m:=Builtin.Dict.addKeywords d []) (aC (aC (q h' tk ?_ λ b o hb e=>k b o (λ z=>hb (bp _ z)) e)));obtain ⟨o,es,ep,e,r⟩:=hd;exact ⟨o,es,ep,k d o nW e,r⟩
 | succ m ih=>
  intro i s j tj hm hi st hd q;have lt:i < n:=by omega
  refine codeAny_builtin rO ?_;rw [Around.under_plainId kj _];refine ah (m:=pyNext (.ref I)) (W.item i s _ _ lt st λ p h1 tk ht st1 k1=>?_);have hd1:h1.DictOf kn d (fT kk kv i):=by
   obtain ⟨o,es,ep,e,r⟩:=hd;exact ⟨o,es,ep,k1 d o nW e,r⟩
  obtain ⟨ot,et,ct,nt,dt⟩:=ht;dsimp only;have hT:Shared.TypeIs { s with heap:=h1,toks:=tk } (.ref p) "tuple" := ⟨_,et,ct⟩
  refine ah (wpAny_holding (ah (wpAny_tryCatch ?_)));unfold Builtin.Dict.pairItems;refine ah (wpAny_typeOf hT ?_);rw [if_pos (by decide)];refine ah (wpAny_seqItems et dt (aC ?_));dsimp only [Option.getD];refine wpAny_holding (wpAny_dictSet_pairs (hsz:=hz i hi) (hk i lt) hd1 λ h2 hd2 sb=>aC ⟨plainId_quiet kj _,ih (i+1) _ _ _ (by omega) lt (W.frame _ _ _ st1 (λ b o hb e=>?_) (Nat.le_of_eq sb.1.symm)) hd2 λ h' tk' hd' k'=>?_⟩)
  ·rw [sb.2 b hb];exact e
  ·refine q h' tk' hd' λ b o hb e=>k' b o hb ?_;have nb:b≠d:=λ z=>hb (by rw [z];exact b9);rw [sb.2 b nb];exact k1 b o (λ z=>hb (bp _ z)) e
end
section
variable [DecidableEq κ] {kn:KeyKind prog w κ} {kk:Nat->κ}
theorem rL{T:String}{ok:Addr->Prop}(ty:s.TypeIs (.ref a) T)(nd:(Value.type T != .type "dict")=true)(nk:∀ (s':Shared) (E':Value->Shared->Prop) (Q':Option Value->Shared->Prop),(∀ b o,s.heap.get? b=some o->s'.heap.get? b=some o)->(∀ h' tk,(∀ b o,s'.heap.get? b=some o->h'.get? b=some o)->Q' none { s' with heap:=h',toks:=tk })->
   wpAny (model prog w) A.in1.in1 (getAttr? (.ref a) "keys") Q' E' s')(it:∀ (s':Shared) (E':Value->Shared->Prop) (Q':Value->Shared->Prop),(∀ b o,s.heap.get? b=some o->s'.heap.get? b=some o)->s.heap.objs.size < s'.heap.objs.size->
   (∀ I h' wr St,jG prog w A.in1.in1 I s.heap.objs.size wr n kv St->St 0 h'->(∀ b o,s'.heap.get? b=some o->h'.get? b=some o)->(∀ b∈wr,¬ ok b\/s'.heap.objs.size<=b)->Q' (.ref I) { s' with heap:=h' })->
   wpAny (model prog w) A.in1.in1 (pyIter (.ref a)) Q' E' s')(hk:∀ i < n,kn.is (kk i) (kv i).1=true)(hz:∀ i,i<=n->(fT kk kv i).length<=sizeLine)(q:∀ h' tk,h'.DictOf kn s.heap.objs.size (fT kk kv n)->(∀ b o,ok b->s.heap.get? b=some o->h'.get? b=some o)->Q (.ref s.heap.objs.size) { s with heap:=h',toks:=tk }):wpAny (model prog w) A (call (.type "dict") [.ref a]) Q E s:=by
 refine callType_codes (Q₁:=λ obj s₁=>obj = .ref s.heap.objs.size/\s₁={ s with heap:=s.heap.push { cls:=.type "dict", data:=.dict #[] } }) F.kt_called_dict (F.kt_typeCall_dict_1 _) F.entry_dict_init (kt_code_dict_new _ ⟨rfl,rfl⟩) ?_;rintro obj s₁ ⟨rfl,rfl⟩;have hnew:(s.heap.push { cls:=.type "dict", data:=.dict #[] }).DictOf kn s.heap.objs.size []:=Heap.DictOf.new s.heap;refine ⟨hnew.typeIs,F.args_dict_init_2 _ _,?_⟩;unfold Builtin.«dict.__init__»;refine ah ?_;unfold Builtin.Dict.selfAndRest;refine ah (wpAny_notOrdered_dict hnew.typeIs ?_);show wpAny _ _ (pure (s.heap.objs.size,[Value.ref a])) _ _ _;refine aC ?_;show wpAny _ _ (Builtin.Dict.updateFrom "dict.__init__" s.heap.objs.size (.ref a) [] .none) _ _ _;unfold Builtin.Dict.updateFrom;have tya:Shared.TypeIs { s with heap:=s.heap.push { cls:=.type "dict", data:=.dict #[] } } (.ref a) T:=by
  obtain ⟨o,e,c⟩:=ty;exact ⟨o,aU _ e,c⟩
 refine ah (wpAny_typeOf tya ?_);rw [if_pos nd];refine ah (nk _ _ _ (λ b o e=>aU _ e) λ h1 tk1 k1=>?_);have hd1:h1.DictOf kn s.heap.objs.size []:=by
  obtain ⟨o,es,ep,e,r⟩:=hnew;exact ⟨o,es,ep,k1 _ _ e,r⟩
 have lt1:s.heap.objs.size < h1.objs.size:=let ⟨o,es,ep,e,r⟩:=hd1;Heap.lt_size e;have ks:∀ b o,s.heap.get? b=some o->h1.get? b=some o:=λ b o e=>k1 b o (aU _ e);simp only [Option.isNone_none,if_true];refine ah (wpAny_rule ?_);refine ah (it _ _ _ ks lt1 λ I h2 wr St W st k2 hw=>aC ⟨plainId_quiet kj _,?_⟩);refine yC W kk hk hz (n - 0) 0 _ 0 _ (by omega) (Nat.zero_le _) st ?_ λ h3 tk3 hd3 k3=>⟨rfl,q h3 tk3 hd3 λ b o hb e=>k3 b o ?_ (k2 b o (ks b o e))⟩
 ·obtain ⟨o,es,ep,e,r⟩:=hd1;exact ⟨o,es,ep,k2 _ _ e,r⟩
 ·intro z;have hb1:=Heap.lt_size e;rcases al_mc.mp z with z | z
  ·exact absurd hb1 (by rw [z];exact Nat.lt_irrefl _)
  ·rcases hw b z with y | y
   ·exact y hb
   ·exact absurd (Nat.lt_of_lt_of_le (Nat.lt_trans hb1 lt1) y) (Nat.lt_irrefl _)
end
theorem zdL(hh:A.handled=none)(I l d:Addr)(hne:l≠I)(n1:I≠d)(n2:l≠d)(its:Array Value)(tp:Nat->Addr)(kv:Nat->Value × Value)(htp:∀ (i:Nat) (v:Value),its[i]?=some v->v = .ref (tp i))(nt:∀ i < its.size,tp i≠I/\tp i≠d):
  jG prog w A I d [I] its.size kv (λ i h=>(h.IsListIter I l i/\h.IsList l its)/\∀ j < its.size,IsTup h (tp j) #[(kv j).1,(kv j).2]) where
 nw:=λ hb=>n1 (al_mi.mp hb).symm
 frame:=λ i h h' st k _=>⟨(Walks.list (prog:=prog) (w:=w) hh I l hne its).frame i h h' st.1 λ b hb o e=>k b o (by simp at hb;rcases hb with z | z <;> rw [z] <;> assumption) e,λ j hj=>by
  obtain ⟨o,e,r⟩:=st.2 j hj;exact ⟨o,k (tp j) o (nt j hj).2 e,r⟩⟩
 item:=λ i s Q E hi st hQ=>(Walks.list hh I l hne its).item i s Q E hi st.1 λ v h' tk hP st' k=>by
  obtain rfl:=htp i v hP;have tt:∀ j < its.size,IsTup h' (tp j) #[(kv j).1,(kv j).2]:=λ j hj=>by
   obtain ⟨o,e,r⟩:=st.2 j hj;exact ⟨o,k (tp j) o (by simp;exact (nt j hj).1) e,r⟩
  exact hQ _ _ _ (tt i hi) ⟨st',tt⟩ k
 done:=λ s Q E st hQ=>(Walks.list hh I l hne its).done s Q E st.1 hQ
noncomputable def cq(ps:List (Key × V)):List (Key × V):=ps.foldl (λ a p=>bj a p.1 p.2) []
theorem zeo(ps:List (Key × V))(p:Key × V):cq (ps++[p])=bj (cq ps) p.1 p.2:=by
 unfold cq;rw [List.foldl_append];rfl
theorem r8:∀ (ps acc:List (Key × V)),(ps.foldl (λ a p=>bj a p.1 p.2) acc).length<=acc.length+ps.length
 | [],acc=>Nat.le_refl _
 | p::r,acc=>by
  have h1:=r8 r (bj acc p.1 p.2);have h2:=iY acc p.1 p.2;show (r.foldl _ (bj acc p.1 p.2)).length<=acc.length+(r.length+1)
  omega
theorem jg(ps:List (Key × V)):(cq ps).length<=ps.length:=by
 have:=r8 ps [];rw [List.length_nil,Nat.zero_add] at this;exact this
theorem lS{ps:List (Key × V)}{kv:Nat->Value × Value}{kk:Nat->Key}(hk:∀ (i:Nat) p,ps[i]?=some p->kk i=p.1/\RelV p.2 (kv i).2):∀ i,i<=ps.length->KV (cq (ps.take i)) (fT kk kv i)
 | 0,_=>.nil
 | i+1,h=>by
  have lt:i < ps.length:=h;rw [List.take_add_one,aH lt];show KV (cq (ps.take i++[ps[i]])) (stored _ _ _);rw [zeo];obtain ⟨e1,e2⟩:=hk i _ (aH lt);rw [e1];exact (lS hk i (Nat.le_of_lt lt)).put _ e2
theorem xY(hc:X.calm=true):CallR X (.type "dict") (λ xs H Q=>∃ (l:Addr) (as:List Addr) (ps:List (Key × V)),xs=[.ref l]/\H l=some (.lst (as.map V.ref))/\as.length=ps.length/\
  (∀ (i:Nat) a p,as[i]?=some a->ps[i]?=some p->H a=some (.tup [kV p.1,p.2]))/\∀ d,H d=none->Q (.ref d) (upd H d (.dK (cq ps)))):=by
 intro pins s σ H xs us Q I r h;obtain ⟨l,as,ps,rfl,hl,hlen,ht,q⟩:=h;obtain ⟨u,rfl,ru⟩:=db r;cases ru;obtain ⟨hz,its,n,rv,eo⟩:=(show ObjOk X.prog X.w H s.heap l (.lst (as.map V.ref)) from I.hok l _ hl)
 have li:its.length=as.length:=by rw [← rv.length,ag]
 have hia:∀ (i:Nat) v,its[i]?=some v->∃ a p,as[i]?=some a/\ps[i]?=some p/\v = .ref a:=λ i v e=>by
  have hi:i < as.length:=by rw [← li];exact (al_gs.mp e).1
  obtain ⟨u,hu,ru⟩:=rv.get (i:=i) (x:=.ref as[i]) (by rw [aL,aH hi];rfl);rw [e] at hu;cases hu;exact ⟨as[i],ps[i],aH hi,aH (by omega),ru⟩
 -- the pairs as they lie
 have tup:∀ (i:Nat),∃ kv:Value × Value,∀ a p,as[i]?=some a->ps[i]?=some p->IsTup s.heap a #[kv.1,kv.2]/\RelV (kV p.1) kv.1/\RelV p.2 kv.2:=λ i=>by
  by_cases hi:i < as.length
  ·have e1:=ht i _ _ (aH hi) (aH (by omega:i < ps.length));obtain ⟨_,vs,r2,tt⟩:=(show ObjOk X.prog X.w H s.heap _ (.tup _) from I.hok _ _ e1)
   obtain ⟨u1,u2,rfl,r3,r4⟩:=iG r2;refine ⟨(u1,u2),λ a p ea ep=>?_⟩;rw [aH hi] at ea;cases ea;rw [aH (by omega:i < ps.length)] at ep;cases ep;exact ⟨tt,r3,r4⟩
  ·exact ⟨(.none,.none),λ a p ea _=>absurd (al_gs.mp ea).1 hi⟩
 obtain ⟨kv,hkv⟩:=Classical.axiomOfChoice tup;let tp:Nat->Addr:=λ i=>as.getD i 0;let kk:Nat->Key:=λ i=>(ps.getD i (.inl none,.non)).1;have tpe:∀ {i:Nat} {a:Addr},as[i]?=some a->tp i=a:=λ {i a} e=>by show as.getD i 0=a;rw [List.getD_eq_getElem?_getD,e];rfl
 have kke:∀ {i:Nat} {p:Key × V},ps[i]?=some p->kk i=p.1:=λ {i p} e=>by show (ps.getD i _).1=_;rw [List.getD_eq_getElem?_getD,e];rfl
 have at_:∀ i,i < its.length->∃ a p,as[i]?=some a/\ps[i]?=some p/\tp i=a/\kk i=p.1/\IsTup s.heap a #[(kv i).1,(kv i).2]/\RelV (kV p.1) (kv i).1/\RelV p.2 (kv i).2:=λ i hi=>by
  obtain ⟨a,p,ea,ep,_⟩:=hia i _ (aH hi);obtain ⟨h1,h2,h3⟩:=hkv i a p ea ep;exact ⟨a,p,ea,ep,tpe ea,kke ep,h1,h2,h3⟩
 have ltl:l < s.heap.objs.size:=Heap.lt_size eo;have ltt:∀ i,i < its.length->tp i < s.heap.objs.size:=λ i hi=>by
  obtain ⟨a,p,_,_,e,_,⟨o,eo,_⟩,_⟩:=at_ i hi;rw [e];exact Heap.lt_size eo
 have bk:=λ i hi=>lS (ps:=ps) (kv:=kv) (kk:=kk) (λ j p ep=>⟨kke ep,by
  have hj:j < as.length:=by rw [hlen];exact (al_gs.mp ep).1
  exact (hkv j _ p (aH hj) ep).2.2⟩) i hi
 have hps:ps.length<=sizeLine:=by rw [← hlen];simpa using hz
 have hh:=I.ok.hd hc;refine rL (kn:=cf X.prog X.w) (n:=its.toArray.size) (kv:=kv) (kk:=kk) (ok:=λ _=>True) (T := "list") ⟨_,eo,rfl⟩ (by decide) (λ s' E' Q' k hq=>zb7 (k _ _ eo) (by simp [hh]) hq) (λ s' E' Q' k lt hq=>?_) (λ i hi=>?_) (λ i hi=>?_) λ h' tk hd k=>?_
 ·refine wpAny_pyIter_list ⟨_,k _ _ eo,rfl,n,rfl⟩ ?_;refine hq _ _ _ _ (zdL (by simp [hh]) s'.heap.objs.size l s.heap.objs.size (Nat.ne_of_lt (Nat.lt_trans ltl lt)) (Nat.ne_of_gt lt) (Nat.ne_of_lt ltl) its.toArray tp kv (λ i v e=>?_) λ i hi=>?_) ⟨⟨⟨_,Heap.get?_push_size _ rfl,rfl,rfl⟩,⟨_,aU _ (k _ _ eo),rfl,n,rfl⟩⟩,λ j hj=>?_⟩ (λ b o e=>aU _ e) λ b hb=>?_
  ·obtain ⟨a,p,ea,_,e⟩:=hia i v (by simpa using e);rw [tpe ea];exact e
  ·have:=ltt i (by simpa using hi);exact ⟨Nat.ne_of_lt (Nat.lt_trans this lt),Nat.ne_of_lt this⟩
  ·obtain ⟨a,p,_,_,e,_,⟨o,eo,r⟩,_⟩:=at_ j (by simpa using hj);rw [e];exact ⟨o,aU _ (k _ _ eo),r⟩
  ·simp only [al_mi] at hb;exact .inr (by rw [hb];exact Nat.le_refl _)
 ·obtain ⟨a,p,_,_,_,e,_,r1,_⟩:=at_ i (by simpa using hi);rw [e];exact fX r1
 ·have hi':i<=ps.length:=by rw [← hlen,← li];simpa using hi
  have:=(bk i hi').length;rw [← this];refine Nat.le_trans (jg _) (Nat.le_trans ?_ hps);rw [be];omega
 ·have e1:its.toArray.size=ps.length:=by rw [aW,li,hlen]
  rw [e1] at hd;have b1:=bk ps.length (Nat.le_refl _);rw [aX] at b1;refine ⟨.ref s.heap.objs.size,_,I.laid (o:=.dK (cq ps)) (λ b o e=>k b o trivial e) (Nat.le_refl _) (iP (Nat.le_trans (jg _) hps) ?_ b1 hd),rfl,q _ (I.hok.fresh (Nat.le_refl _))⟩;have:=I.big;simp;exact Nat.ne_of_gt this
noncomputable def fg(h:Heap)(z TI TO T:Addr):Prop:=∃ b,h.get? z=some { cls:=.type "zip", dict:=none,data:=.fields #[rawInt T,.bool b,.bool false,.ref TI,.ref TO],slots:=#[] }
theorem zgS{Q:Option Obj->Shared->Prop}(h:Q (s.heap.get? a) s):wpAny M A (loadIfAlive a) Q E s:=λ _ _ _=>h
theorem tN{TI TO T:Addr}{Q:Bool->Shared->Prop}(hz:fg s.heap z TI TO T)(hT:∃ o,s.heap.get? T=some o)(q:∀ h',fg h' z TI TO T->Heap.SameBut z s.heap h'->Q false { s with heap:=h' }):
  wpAny (model prog w) A (Builtin.SmallTypes.ownedTupleIsFree (.ref z)) Q E s:=by
 obtain ⟨b,hz⟩:=hz;obtain ⟨o,ho⟩:=hT;unfold Builtin.SmallTypes.ownedTupleIsFree;refine ah (wpAny_field hz rfl (x:=rawInt T) rfl ?_);show wpAny _ _ (loadIfAlive (T:Int).toNat >>= _) _ _ _;refine ah (zgS ?_);rw [Int.toNat_natCast,ho];simp only [Option.isNone_some,Bool.false_eq_true,if_false];refine ah (wpAny_field hz rfl (x:=.bool b) rfl ?_);cases b with
 | true=>
  rw [if_neg (by decide)];exact aC (q s.heap ⟨true,hz⟩ (Heap.SameBut.refl _ _))
 | false=>
  rw [if_pos (by decide)];refine ah (wpAny_setField_rec hz (by simp) λ h' hz' hs'=>aC (q h' ⟨true,hz'⟩ hs'))
theorem zgW{TI TO T:Addr}{k:Nat}{xs ys:Array Value}(D:ZipApart z TI TO i1 i2 l1 l2)(hz:fg s.heap z TI TO T)(hT:∃ o,s.heap.get? T=some o)(hTI:IsPair s.heap TI (.ref i1) (.ref i2))(h1:s.heap.IsListIter i1 l1 k)(h2:s.heap.IsListIter i2 l2 k)(hl1:s.heap.IsList l1 xs)(hl2:s.heap.IsList l2 ys){x y:Value}(hx:xs[k]?=some x)(hy:ys[k]?=some y)(hQ:∀ h',fg h' z TI TO T->h'.IsListIter i1 l1 (k+1)->h'.IsListIter i2 l2 (k+1)->IsPair h' s.heap.objs.size x y->(∀ c o,c≠z->c≠i1->c≠i2->s.heap.get? c=some o->h'.get? c=some o)->Q (.ref s.heap.objs.size) { s with heap:=h' }):
  wpAny (model prog w) A (Builtin.«zip.__next__» ⟨[.ref z],[]⟩) (λ fin s'=>∃ v,fin = .done (.ret v)/\Q v s') E s:=by
 obtain ⟨b,hz0⟩:=id hz;show wpAny _ _ (field (.ref z) 2 >>= _) _ _ _;refine ah (wpAny_field hz0 rfl (x:=.bool false) rfl ?_);show wpAny _ _ (field (.ref z) 3 >>= _) _ _ _;refine ah (wpAny_field hz0 rfl (x:=.ref TI) rfl ?_);refine ah (wpAny_seqItems hTI rfl ?_);show wpAny _ _ (Builtin.SmallTypes.ownedTupleIsFree (.ref z) >>= _) _ _ _;refine ah (tN hz hT λ h₁ hz₁ hs₁=>?_);simp only [Bool.false_eq_true,if_false];refine ah ?_;rw [List.forIn_toArray,List.forIn_cons];refine ah (ah (wpAny_holding ?_));show wpAny _ _ (Builtin.SmallTypes.nextOf (.ref i1) >>= _) _ _ _;refine ah (wpAny_nextOf_list_item (h1.extBut hs₁.extBut D.i1z) (hl1.extBut hs₁.extBut D.l1z) hx λ h₂ h1₂ hs₂=>aC (aC ?_));dsimp only;rw [List.forIn_cons];refine ah (ah (wpAny_holding ?_));show wpAny _ _ (Builtin.SmallTypes.nextOf (.ref i2) >>= _) _ _ _;refine ah (wpAny_nextOf_list_item ((h2.extBut hs₁.extBut D.i2z).extBut hs₂.extBut D.i12.symm) ((hl2.extBut hs₁.extBut D.l2z).extBut hs₂.extBut D.l2i1) hy λ h₃ h2₃ hs₃=>aC (aC ?_));dsimp only;rw [List.forIn_nil];refine aC (ah (wpAny_newTuple (hsz:=by show 2<=sizeLine;decide) (aC ⟨_,rfl,?_⟩)));have hsz:h₃.objs.size=s.heap.objs.size:=by rw [hs₃.1,hs₂.1,hs₁.1]
 show Q (.ref h₃.objs.size) _;obtain ⟨b1,hz₁⟩:=hz₁;have e:=hQ (h₃.push { cls:=.type "tuple", data:=.seq #[x,y] }) ⟨b1,aU _ (hs₃.extBut _ _ D.i2z.symm (hs₂.extBut _ _ D.i1z.symm hz₁))⟩
  ((h1₂.extBut hs₃.extBut D.i12).at λ o e=>aU _ e) (h2₃.at λ o e=>aU _ e) (by rw [← hsz];exact Heap.get?_push_size _ rfl) λ c o c1 c2 c3 q=>aU _ (hs₃.extBut _ _ c3 (hs₂.extBut _ _ c2 (hs₁.extBut _ _ c1 q)))
 rw [hsz];exact e
theorem zgV{TI TO T:Addr}{k:Nat}{xs:Array Value}{Q:Fin->Shared->Prop}(hh:A.handled=none)(D:ZipApart z TI TO i1 i2 l1 l2)(hz:fg s.heap z TI TO T)(hT:∃ o,s.heap.get? T=some o)(hTI:IsPair s.heap TI (.ref i1) (.ref i2))(h1:s.heap.IsListIter i1 l1 k)(hl1:s.heap.IsList l1 xs)(hx:xs[k]?=none)(hE:∀ h' e,(∀ c o,c≠z->c≠i1->s.heap.get? c=some o->h'.get? c=some o)->(∃ o,h'.get? e=some o/\o.cls = .type "StopIteration")->E (.ref e) { s with heap:=h' }):
  wpAny (model prog w) A (Builtin.«zip.__next__» ⟨[.ref z],[]⟩) Q E s:=by
 obtain ⟨b,hz0⟩:=id hz;show wpAny _ _ (field (.ref z) 2 >>= _) _ _ _;refine ah (wpAny_field hz0 rfl (x:=.bool false) rfl ?_);show wpAny _ _ (field (.ref z) 3 >>= _) _ _ _;refine ah (wpAny_field hz0 rfl (x:=.ref TI) rfl ?_);refine ah (wpAny_seqItems hTI rfl ?_);show wpAny _ _ (Builtin.SmallTypes.ownedTupleIsFree (.ref z) >>= _) _ _ _;refine ah (tN hz hT λ h₁ hz₁ hs₁=>?_);simp only [Bool.false_eq_true,if_false];refine ah ?_;rw [List.forIn_toArray,List.forIn_cons];refine ah (ah (wpAny_holding ?_));show wpAny _ _ (Builtin.SmallTypes.nextOf (.ref i1) >>= _) _ _ _;exact ah (wpAny_nextOf_list_end hh (h1.extBut hs₁.extBut D.i1z) (hl1.extBut hs₁.extBut D.l1z) hx λ h₂ e hs₂ he=>hE h₂ e (λ c o c1 c2 q=>hs₂ _ _ c2 (hs₁.extBut _ _ c1 q)) he)
theorem zgY{TI TO T:Addr}{k:Nat}{xs ys:Array Value}{Q:Option Value->Shared->Prop}(D:ZipApart z TI TO i1 i2 l1 l2)(hz:fg s.heap z TI TO T)(hT:∃ o,s.heap.get? T=some o)(hTI:IsPair s.heap TI (.ref i1) (.ref i2))(h1:s.heap.IsListIter i1 l1 k)(h2:s.heap.IsListIter i2 l2 k)(hl1:s.heap.IsList l1 xs)(hl2:s.heap.IsList l2 ys){x y:Value}(hx:xs[k]?=some x)(hy:ys[k]?=some y)(hQ:∀ h',fg h' z TI TO T->h'.IsListIter i1 l1 (k+1)->h'.IsListIter i2 l2 (k+1)->IsPair h' s.heap.objs.size x y->(∀ c o,c≠z->c≠i1->c≠i2->s.heap.get? c=some o->h'.get? c=some o)->Q (some (.ref s.heap.objs.size)) { s with heap:=h' }):
  wpAny (model prog w) A (pyNext (.ref z)) Q E s:=by
 have hTy:s.TypeIs (.ref z) "zip" := let ⟨_,e⟩:=hz;⟨_,e,rfl⟩;unfold pyNext;exact ah (wpAny_attempt (wpAny_callSpecial?_slot (name:=Str.ofString "__next__") hTy F.slot_zip_next
  (wpAny_call_entry F.slot_zip_next hTy F.entry_zip_next (zgW D hz hT hTI h1 h2 hl1 hl2 hx hy λ h' a1 a2 a3 a4 a5=>aC (hQ h' a1 a2 a3 a4 a5)) (F.args_zip_next_1 _))))
theorem zgX{TI TO T:Addr}{k:Nat}{xs:Array Value}{Q:Option Value->Shared->Prop}(hh:A.handled=none)(D:ZipApart z TI TO i1 i2 l1 l2)(hz:fg s.heap z TI TO T)(hT:∃ o,s.heap.get? T=some o)(hTI:IsPair s.heap TI (.ref i1) (.ref i2))(h1:s.heap.IsListIter i1 l1 k)(hl1:s.heap.IsList l1 xs)(hx:xs[k]?=none)(hQ:∀ h',(∀ c o,c≠z->c≠i1->s.heap.get? c=some o->h'.get? c=some o)->Q none { s with heap:=h' }):wpAny (model prog w) A (pyNext (.ref z)) Q E s:=by
 have hTy:s.TypeIs (.ref z) "zip" := let ⟨_,e⟩:=hz;⟨_,e,rfl⟩;unfold pyNext;refine ah (wpAny_attempt (wpAny_callSpecial?_slot (name:=Str.ofString "__next__") hTy F.slot_zip_next
  (wpAny_call_entry F.slot_zip_next hTy F.entry_zip_next (zgV hh D hz hT hTI h1 hl1 hx λ h' e hk he=>?_) (F.args_zip_next_1 _))))
 obtain ⟨o,ho,hc⟩:=he;refine ah (wpAny_isInstance (T := "StopIteration") (b:=true) ⟨o,ho,hc⟩ isSubtype_stop ?_);exact aC (hQ _ hk)
theorem zdM(hh:A.handled=none)(z TI TO i1 i2 l1 l2 d:Addr)(D:ZipApart z TI TO i1 i2 l1 l2)(nd:∀ b∈[z,TI,TO,i1,i2,l1,l2],b≠d)(xs ys:Array Value)(hs:xs.size=ys.size)(kv:Nat->Value × Value)(hkv:∀ i < xs.size,xs[i]?=some (kv i).1/\ys[i]?=some (kv i).2):
  jG prog w A z d [z,TO,i1,i2] xs.size kv (λ i h=>d < h.objs.size/\IsPair h TI (.ref i1) (.ref i2)/\h.IsListIter i1 l1 i/\h.IsListIter i2 l2 i/\h.IsList l1 xs/\h.IsList l2 ys/\
   ((IsZip h z TI TO .none/\∃ a b,IsPair h TO a b)\/∃ T,T≠d/\T∉[z,TO,i1,i2]/\fg h z TI TO T/\∃ o,h.get? T=some o)) where
 nw:=λ hb=>by
  simp only [al_mc,List.not_mem_nil,or_false] at hb;rcases hb with e | e | e | e
  ·exact nd z (by simp) e.symm
  ·exact nd TO (by simp) e.symm
  ·exact nd i1 (by simp) e.symm
  ·exact nd i2 (by simp) e.symm
 frame:=λ i h h' st k sz=>by
  obtain ⟨s0,s1,s2,s3,s4,s5,s6⟩:=st;refine ⟨Nat.lt_of_lt_of_le s0 sz,k TI _ (nd TI (by simp)) s1,s2.at λ o e=>k i1 o (nd i1 (by simp)) e,s3.at λ o e=>k i2 o (nd i2 (by simp)) e,s4.at λ o e=>k l1 o (nd l1 (by simp)) e,s5.at λ o e=>k l2 o (nd l2 (by simp)) e,?_⟩;rcases s6 with ⟨e1,a,b,e2⟩ | ⟨T,n1,n2,⟨b,e1⟩,o,e2⟩
  ·exact .inl ⟨k z _ (nd z (by simp)) e1,a,b,k TO _ (nd TO (by simp)) e2⟩
  ·exact .inr ⟨T,n1,n2,⟨b,k z _ (nd z (by simp)) e1⟩,o,k T o n1 e2⟩
 item:=λ i s Q E hi st hQ=>by
  obtain ⟨s0,s1,s2,s3,s4,s5,s6⟩:=st;obtain ⟨e1,e2⟩:=hkv i hi;have lt:∀ {c o},s.heap.get? c=some o->s.heap.objs.size≠c:=λ e=>Nat.ne_of_gt (Heap.lt_size e);have li1:s.heap.objs.size≠i1:=let ⟨_,e,_⟩:=s2;lt e;have li2:s.heap.objs.size≠i2:=let ⟨_,e,_⟩:=s3;lt e;rcases s6 with ⟨z1,a,b,z2⟩ | ⟨T,n1,n2,z1,o,z2⟩
  ·refine wpAny_pyNext_zip_item D z1 s1 z2 s2 s3 s4 s5 e1 e2 λ h' a1 a2 a3 a4 a5 a6 hk=>?_;refine hQ _ h' s.toks ⟨_,a5,rfl,_,rfl⟩ ⟨by rw [a6];exact Nat.lt_succ_of_lt s0,hk _ _ D.TIz D.TITO D.TIi1 D.TIi2 s1,a3,a4,s4.at λ o e=>hk _ o D.l1z D.l1TO D.l1i1 D.l1i2 e,s5.at λ o e=>hk _ o D.l2z D.l2TO D.l2i1 D.l2i2 e,.inr ⟨s.heap.objs.size,?_,?_,⟨false,a1⟩,_,a5⟩⟩
    λ c o hc e=>hk c o (λ x=>hc (by simp [x])) (λ x=>hc (by simp [x])) (λ x=>hc (by simp [x])) (λ x=>hc (by simp [x])) e
   ·exact Nat.ne_of_gt s0
   ·simp only [al_mc,List.not_mem_nil,or_false,not_or];exact ⟨lt z1,lt z2,li1,li2⟩
  ·have nz:T≠z/\T≠TO/\T≠i1/\T≠i2:=by simpa using n2
   refine zgY D z1 ⟨o,z2⟩ s1 s2 s3 s4 s5 e1 e2 λ h' a1 a3 a4 a5 hk=>?_;exact hQ _ h' s.toks ⟨_,a5,rfl,_,rfl⟩ ⟨Nat.lt_trans s0 (Heap.lt_size a5),hk _ _ D.TIz D.TIi1 D.TIi2 s1,a3,a4,s4.at λ o e=>hk _ o D.l1z D.l1i1 D.l1i2 e,s5.at λ o e=>hk _ o D.l2z D.l2i1 D.l2i2 e,.inr ⟨T,n1,n2,a1,o,hk T o nz.1 nz.2.2.1 nz.2.2.2 z2⟩⟩
    λ c o hc e=>hk c o (λ x=>hc (by simp [x])) (λ x=>hc (by simp [x])) (λ x=>hc (by simp [x])) e
 done:=λ s Q E st hQ=>by
  obtain ⟨s0,s1,s2,s3,s4,s5,s6⟩:=st;have e1:xs[xs.size]?=none:=by simp
  rcases s6 with ⟨z1,a,b,z2⟩ | ⟨T,n1,n2,z1,o,z2⟩
  ·exact wpAny_pyNext_zip_end hh D z1 s1 z2 s2 s3 s4 s5 (.inl e1) λ h' hk=>hQ h' s.toks λ c o hc e=>hk c o (λ x=>hc (by simp [x])) (λ x=>hc (by simp [x])) (λ x=>hc (by simp [x])) (λ x=>hc (by simp [x])) e
  ·exact zgX hh D z1 ⟨o,z2⟩ s1 s2 s4 e1 λ h' hk=>hQ h' s.toks λ c o hc e=>hk c o (λ x=>hc (by simp [x])) (λ x=>hc (by simp [x])) e
theorem yJ:entryFor table "zip.__getattribute__" = some Builtin.«object.__getattribute__»:=
 entryFor_alias (id' := "object.__getattribute__") (by kernel_rfl) (by decide +kernel) (by decide +kernel) (by kernel_rfl)
theorem zbf(a:Addr)(fs:Array Value)(u:Tok):
  Meets (Builtin.«object.__getattribute__» ⟨[.ref a,.str "keys" u],[]⟩) (λ A R s=>s.heap.get? a=some { cls:=.type "zip", dict:=none,data:=.fields fs,slots:=#[] }/\raisesAttr (.ref a) "keys" A R s):=
 Meets.of_wp λ prog w A R s hs=>by
  obtain ⟨hp,g,d,tk,os⟩:=s;obtain ⟨hx,hs⟩:=hs;have hT:(⟨hp,g,d,tk,os⟩:Shared).TypeIs (.ref a) "zip" := ⟨_,hx,rfl⟩
  have hmiss:=zb6;unfold Builtin.«object.__getattribute__»
  repeat (any_goals (first | assumption | wp_step))
  exact wpAny_raiseAttrError hs.1 hs.2 (attrMsg_fits (by decide +kernel) (by decide))
theorem zb8{fs:Array Value}{Q:Option Value->Shared->Prop}(hx:s.heap.get? a=some { cls:=.type "zip", dict:=none,data:=.fields fs,slots:=#[] })(hA:A.handled=none)(h:∀ h' tk,(∀ b ob,s.heap.get? b=some ob->h'.get? b=some ob)->Q none { s with heap:=h',toks:=tk }):wpAny (model prog w) A (getAttr? (.ref a) "keys") Q E s:=by
 obtain ⟨hp,g,d,tk,os⟩:=s;have hT:∀ tk',(⟨hp,g,d,tk',os⟩:Shared).TypeIs (.ref a) "zip" := λ _=>⟨_,hx,rfl⟩
 have f1:=sub_AttributeError;have f3:=F.slot_zip_getattribute.lookup;have f4:=F.slot_zip_getattribute.bind (.ref a);have f5:=zb3;unfold getAttr? getAttrBy? getAttrBy
 repeat (any_goals (first | assumption | exact hT _ | ((with_reducible show wpAny _ _ (call (Value.builtin "zip.__getattribute__") _ _) _ _ _);refine call_meets F.slot_zip_getattribute (hT _) yJ (F.args_zip_getattribute_2 _ _) (zbf a fs _) ⟨hx,hA,λ h' tk' e hx'=>?_⟩) | wp_step))
 obtain ⟨t',u',he⟩:=hx'.there;show wpAny _ _ (getattributeRaised _ _ _ _ _ _ _) _ _ _;unfold getattributeRaised
 repeat (any_goals (first | assumption | wp_step))
 exact h _ _ hx'.keeps
theorem ne5{c a b:Nat}(la:a < n)(lb:b < n)(h:c=n+4\/c=n+2\/c=n+3\/c=n\/c=n+1\/c=a\/c=b):c≠n+5:=by omega
theorem nl4{c:Nat}(h:c=n+4\/c=n+3\/c=n\/c=n+1):¬ c < n:=by omega
noncomputable def zga(K:W.Frag)(t:TA):TE:=λ σ H Q=>t σ H λ vs H1=>∃ (l1 l2:Addr) (ks:List Key) (ys:List V),vs=[.ref l1,.ref l2]/\SqL K H1 l1 (ks.map kV)/\SqL K H1 l2 ys/\ks.length=ys.length/\∀ d,H1 d=none->Q (.ref d) (upd H1 d (.dK (cq (ks.zip ys))))
theorem zdU(K:W.Frag){a b:Expr}{ta:TA}{pos2:Pos}(hc:X.calm=true)(hgd:Gl X "dict")(hmd:X.mg "dict" = none)(hg:Gl X "zip")(hm:X.mg "zip" = none)(ha:PA X [a,b] ta)(hK:X.K=K:=by rfl)(hs:starEach [a,b] X.env=[(false,eval a X.env),(false,eval b X.env)]:=by rfl)(hs2:starEach [b] X.env=[(false,eval b X.env)]:=by rfl)(hs3:starEach [.Call (.Name "zip" p2) [a,b] [] pos2] X.env=[(false,eval (.Call (.Name "zip" p2) [a,b] [] pos2) X.env)]:=by rfl):
  PE X (.Call (.Name "dict" p) [.Call (.Name "zip" p2) [a,b] [] pos2] [] pos) (zga K ta):=by
 subst hK;intro pins s σ H Q I h;refine Call_ (dJ I hgd hmd PyProof.Rows.Boot.«dict» (PyProof.Rows.callWith_type1 ?_ hs3 rfl));rw [hs3];refine Calls.spliced_cons ?_;refine Call_ (dJ I hg hm PyProof.Rows.Boot.«zip» (PyProof.Rows.callWith_type1 (thn (ha pos2 pins s σ H _ I h) λ us s1 ⟨vs,H1,I1,r1,q1⟩=>?_) (by rw [hs,hs2]) (by rw [hs2];rfl)));obtain ⟨a,b,ks,ys,e,qa,qb,hlen,q⟩:=q1;subst e;obtain ⟨u1,u2,rfl,ra1,ra2⟩:=iG r1;cases ra1;cases ra2;obtain ⟨ia,ra,pa,za⟩:=I1.list qa;obtain ⟨ib,rb,pb,zb⟩:=I1.list qb;have la:a < s1.heap.objs.size:=by obtain ⟨o,_,e,_⟩:=pa;exact Heap.lt_size e
 have lb:b < s1.heap.objs.size:=by obtain ⟨o,_,e,_⟩:=pb;exact Heap.lt_size e
 have lia:ia.length=ks.length:=by rw [← ra.length,ag]
 have lib:ib.length=ks.length:=by rw [← rb.length,hlen]
 refine call_zip_2 pa.isList pb.isList λ h' z1 z2 z3 z4 z5 hsz hk=>?_;refine Calls.spliced_nil ?_;let kv:Nat->Value × Value:=λ i=>(ia.getD i .none,ib.getD i .none)
 let kk:Nat->Key:=λ i=>ks.getD i (.inl none);have at_:∀ i,i < ks.length->∃ k y,ks[i]?=some k/\ys[i]?=some y/\kk i=k/\ia[i]?=some (kv i).1/\ib[i]?=some (kv i).2/\RelV (kV k) (kv i).1/\RelV y (kv i).2:=λ i hi=>by
  have hy:i < ys.length:=by omega
  obtain ⟨u,hu,ru⟩:=ra.get (i:=i) (x:=kV ks[i]) (by rw [aL,aH hi];rfl);obtain ⟨u2,hu2,ru2⟩:=rb.get (i:=i) (x:=ys[i]) (aH hy);have e1:(kv i).1=u:=by show ia.getD i .none=u;rw [List.getD_eq_getElem?_getD,hu];rfl
  have e2:(kv i).2=u2:=by show ib.getD i .none=u2;rw [List.getD_eq_getElem?_getD,hu2];rfl
  refine ⟨ks[i],ys[i],aH hi,aH hy,?_,by rw [e1];exact hu,by rw [e2];exact hu2,by rw [e1];exact ru,by rw [e2];exact ru2⟩;show ks.getD i _=_;rw [List.getD_eq_getElem?_getD,aH hi];rfl
 have bk:=λ i hi=>lS (ps:=ks.zip ys) (kv:=kv) (kk:=kk) (λ j p ep=>by
  have hj:j < ks.length:=by have:=(al_gs.mp ep).1;rw [List.length_zip] at this;omega
  obtain ⟨k,y,e1,e2,e3,_,_,_,r⟩:=at_ j hj;have:p=(k,y):=by
   rw [List.getElem?_zip_eq_some] at ep;rw [e1,e2] at ep;exact Prod.ext (Option.some.inj ep.1).symm (Option.some.inj ep.2).symm
  rw [this];exact ⟨e3,r⟩) i hi
 have lz:(ks.zip ys).length=ks.length:=by rw [List.length_zip];omega
 have hps:ks.length<=sizeLine:=by rw [ag] at za;exact za
 have hh:=I1.ok.hd hc;have esz:ia.toArray.size=ks.length:=by rw [aW,lia]
 refine rL (kn:=cf X.prog X.w) (n:=ia.toArray.size) (kv:=kv) (kk:=kk) (ok:=λ b=>b < s1.heap.objs.size) (T := "zip") ⟨_,z1,rfl⟩ (by decide) (λ s' E' Q' k hq=>zb8 (k _ _ z1) (by simp [hh]) hq) (λ s' E' Q' k lt hq=>?_) (λ i hi=>?_) (λ i hi=>?_) λ h3 tk hd k=>?_
 ·refine wpAny_pyIter_zip (k _ _ z1) ?_;refine hq _ s'.heap _ _ (zdM (by simp [hh]) (s1.heap.objs.size+4) (s1.heap.objs.size+2) (s1.heap.objs.size+3) s1.heap.objs.size (s1.heap.objs.size+1) a b _ (zipApart_new la lb) (λ c hc=>?_) ia.toArray ib.toArray (by simp;omega) kv λ i hi=>?_)
   ⟨lt,k _ _ z2,z4.at λ o e=>k _ _ e,z5.at λ o e=>k _ _ e,pa.isList.at λ o e=>k _ _ (hk _ _ e),pb.isList.at λ o e=>k _ _ (hk _ _ e),.inl ⟨k _ _ z1,_,_,k _ _ z3⟩⟩ (λ b o e=>e) λ c hc=>?_
  ·have e:({ s1 with heap:=h' }:Shared).heap.objs.size=s1.heap.objs.size+5:=hsz;rw [e];simp only [al_mc,List.not_mem_nil,or_false] at hc;exact ne5 la lb hc
  ·obtain ⟨_,_,_,_,_,e1,e2,_⟩:=at_ i (by rw [← esz];exact hi);exact ⟨by simpa using e1,by simpa using e2⟩
  ·simp only [al_mc,List.not_mem_nil,or_false] at hc;refine .inl ?_;show ¬ c < s1.heap.objs.size;exact nl4 hc
 ·obtain ⟨_,_,_,_,e3,_,_,r1,_⟩:=at_ i (by rw [← esz];exact hi);rw [e3];exact fX r1
 ·have hi':i<=(ks.zip ys).length:=by rw [lz,← esz];exact hi
  rw [← (bk i hi').length];refine Nat.le_trans (jg _) ?_;rw [be];omega
 ·rw [esz,← lz] at hd;have b1:=bk _ (Nat.le_refl _);rw [aX] at b1;have hd0:s1.heap.objs.size<=({ s1 with heap:=h' }:Shared).heap.objs.size:=by show _<=h'.objs.size;omega
  refine ⟨.ref _,_,I1.laid (o:=.dK (cq (ks.zip ys))) (λ b o e=>k b o (Heap.lt_size e) (hk _ _ e)) hd0 (iP (Nat.le_trans (jg _) (by rw [lz];exact hps)) ?_ b1 hd),rfl,q _ (I1.hok.fresh hd0)⟩;have:=I1.big;simp;exact Nat.ne_of_gt (Nat.lt_of_lt_of_le this hd0)
noncomputable def Ite(K:W.Frag)(a:Addr):It:=
 ⟨λ i H=>∃ xs x,SqL K H a xs/\xs[i]?=some x,λ i H v H'=>∃ T,H T=none/\v = .ref T/\∀ xs,SqL K H a xs->∃ x,xs[i]?=some x/\H'=upd H T (.tup [.int i,x]),λ i H=>∃ xs,SqL K H a xs/\xs.length<=i⟩
theorem zgC{k:Nat}(a e it:Addr)(n1:e≠it)(n2:a≠e)(n3:a≠it):
  fQ P w K (.Tuple elts k pos) (Ite K a) [e,it] e (λ i h=>(∃ old,IsEnum h e it i old)/\h.IsListIter it a i) where
 mem:=by simp
 obj:=λ i h st c hc=>by
  obtain ⟨⟨old,h1⟩,o2,e2,c2,d2⟩:=st;simp only [al_mc,List.not_mem_nil,or_false] at hc;rcases hc with rfl | rfl
  ·exact ⟨_,h1,λ v z=>by cases z⟩
  ·exact ⟨o2,e2,λ v z=>by rw [d2] at z;cases z⟩
 keep:=λ i h h' st kk=>by
  obtain ⟨⟨old,h1⟩,h2⟩:=st;exact ⟨⟨old,kk e (by simp) _ h1⟩,h2.at λ o x=>kk it (by simp) o x⟩
 item:=by
  intro X hP hw hK hc i pins s σ H E I hf st hg;subst hP hw hK;obtain ⟨xs,x,hqa,hx⟩:=hg;obtain ⟨ia,ra,pa,_⟩:=I.list hqa;obtain ⟨ux,hux,rux⟩:=ra.get hx;have hia:i < ia.length:=(al_gs.mp hux).1;have W:=WalksT.enumerate (prog:=X.prog) (w:=X.w) (I.ok.hd hc) e it a n1 n2 n3 ia.toArray;obtain ⟨⟨old,h1⟩,h2⟩:=id st;refine W.item i s _ _ (by rw [aW];exact hia) ⟨⟨old,h1⟩,h2,pa.isList⟩ λ T vals h' tk hP hT hTup hM hk=>?_;refine ⟨.ref T,rfl,W.go elts k pos i T { s with heap:=h',toks:=tk } _ _ hM λ h'' st' hk'=>?_⟩;obtain ⟨tt,x',ex,rfl⟩:=hP;have ex':ux=x':=by
   have:ia[i]?=some x':=by simpa using ex
   rw [hux] at this;exact Option.some.inj this
  subst ex';have sub:∀ c∈[e,it],c∈[e,it]:=λ _ z=>z;have I1:Inv X pins σ H { s with heap:=h'',toks:=tk }:=I.turnedL (ch:=[e,it]) (λ c o hc' q=>hk' c o hc' (hk c o hc' q)) hf;have hTn:H T=none:=I.hok.fresh hT;have hTup2:IsTup h'' T #[.int i tt,ux]:=hTup.at λ o q=>hk' T o (W.apart i T _ hM) q;have ltT:∀ {c:Addr} {o:Obj},s.heap.get? c=some o->c≠T:=λ q=>Nat.ne_of_lt (Nat.lt_of_lt_of_le (Heap.lt_size q) hT);have I2:Inv X pins σ (upd H T (.tup [.int i,x])) { s with heap:=h'',toks:=tk }:=by
   refine I1.track hTn ?_ (λ q=>?_) (λ n c q z=>?_) (λ p hp q=>?_) ?_
   ·cases q:X.s₀.heap.get? T with
    | none=>rfl
    | some o=>exact absurd (Nat.lt_of_lt_of_le (Heap.lt_size q) (Nat.le_trans I.sz hT)) (Nat.lt_irrefl _)
   ·exact absurd (Nat.lt_of_lt_of_le I.lt hT) (by rw [q];exact Nat.lt_irrefl _)
   ·obtain ⟨v,o,ho,_⟩:=I.cell n c q;exact ltT ho z
   ·exact ltT (I.pin p hp).1 q
   ·exact ⟨by show 2<=sizeLine;decide,[.int i tt,ux],.cons ⟨tt,rfl⟩ (.cons rux .nil),hTup2⟩
  refine ⟨.ref T,_,I2,rfl,⟨T,hTn,rfl,λ xs' qa=>?_⟩,⟨st'.1,st'.2.1⟩,λ c hc'=>?_⟩
  ·rw [I.list_inj qa hqa];exact ⟨x,hx,rfl⟩
  ·have:c≠T:=by
    simp only [al_mc,List.not_mem_nil,or_false] at hc';obtain ⟨o2,e2,_⟩:=h2;rcases hc' with rfl | rfl
    ·exact ltT h1
    ·exact ltT e2
   rw [ai this];exact (hf c hc').1
 done:=by
  intro X hP hw hK hc i pins s σ H E I hf st hg;subst hP hw hK;obtain ⟨xs,hqa,hl⟩:=hg;obtain ⟨ia,ra,pa,_⟩:=I.list hqa;obtain ⟨⟨old,h1⟩,h2⟩:=id st;have l1:=ra.length;refine wpAny_pyNext_enum_end (I.ok.hd hc) h1 h2 pa.isList (by simp;omega) λ h' hk=>⟨rfl,I.turnedL (t':=s.toks) (ch:=[e,it]) (λ c o hc' q=>hk c o (λ z=>hc' (by simp [z])) q) hf⟩
 self:=λ _ _ _ _ _ st h=>let ⟨⟨_,q⟩,_⟩:=st;wpAny_pyIter_enum q h
noncomputable def zE(K:W.Frag)(ta:TA):TI:=λ σ H R=>ta σ H λ vs H1=>∃ a xs,vs=[.ref a]/\SqL K H1 a xs/\R (Ite K a) H1
theorem zd2(K:W.Frag){k:Nat}{a:Expr}{ta:TA}(hg:Gl X "enumerate")(hm:X.mg "enumerate" = none)(ha:PA X [a] ta)(hK:X.K=K:=by rfl)(hs:starEach [a] X.env=[(false,eval a X.env)]:=by rfl):
  PI X (.Tuple elts k tpos) (.Call (.Name "enumerate" p) [a] [] pos) (zE K ta):=by
 subst hK;intro pins s σ H R I h;refine Call_ (dJ I hg hm PyProof.Rows.Boot.«enumerate» (PyProof.Rows.callWith_type1 (thn (ha pos pins s σ H _ I h) λ us s1 ⟨vs,H1,I1,r1,q1⟩=>?_) hs rfl));obtain ⟨a,xs,e,qa,q⟩:=q1;subst e;obtain ⟨u,rfl,ru⟩:=db r1;cases ru;obtain ⟨ia,ra,pa,_⟩:=I1.list qa;have la:a < s1.heap.objs.size:=by obtain ⟨o,_,e,_⟩:=pa;exact Heap.lt_size e
 refine call_enumerate_list pa.isList λ h' z1 z2 hsz hk=>?_;refine wpAny_pyIter_enum z1 ?_;refine ⟨s1.heap.objs.size+1,[s1.heap.objs.size+1,s1.heap.objs.size],_,_,H1,rfl,I1.kept (t':=s1.toks) hk,zgC a _ _ (Nat.ne_of_gt (Nat.lt_succ_self _)) (Nat.ne_of_lt (Nat.lt_succ_of_lt la)) (Nat.ne_of_lt la),⟨⟨_,z1⟩,z2⟩,λ c hc=>?_,q⟩;have:s1.heap.objs.size<=c:=by
  simp only [al_mc,List.not_mem_nil,or_false] at hc;rcases hc with rfl | rfl
  ·exact Nat.le_succ _
  ·exact Nat.le_refl _
 exact I1.fpOk this (I1.hok.fresh this)
theorem r6{l:Addr}{body:Expr}{H0:Hp}(_:H0 l=some (FrO (W.kla_obj "<lambda>" qual ar body sc [(y,c)] pm c' ctv) l))(x:Str)(k:Nat)(sb:V->V->Hp->VK->XK->Prop)(S:LamSc sc x y)(R:jH CX)(hbody:∀ (A:Around) (outer:List Env) (s:Shared) (H:Hp) (v z:V) (Q:VK) (E:XK),Room k (A.deeper (fW qual sc s.heap.objs.size l (.ref c') y c))->sb v z H Q E->
   ∃ t,PE (gr CX P w K mg base x y qual sc l (.ref c') c A outer s H E) body t/\t [some v,some z] H Q)(hb:∀ us:List Value,us.length=[x].length->bindArgs (W.kla_fn "<lambda>" qual ar body sc [(y,c)] pm (.ref c') ctv) ⟨us,[]⟩=pure ([x].zip us)):
  FnOk P w K mg base CX (k+1) l (W.kla_fn "<lambda>" qual ar body sc [(y,c)] pm (.ref c') ctv) [x] (uP qual ar body sc l y c pm c' ctv sb)/\Binds K (W.kla_fn "<lambda>" qual ar body sc [(y,c)] pm (.ref c') ctv) [x] []:=
 ⟨yV S R hbody,Binds.all hb⟩
section
variable {k:Nat} {f:Addr} {kV dc:Value}
noncomputable def Bs(P:Program)(w:World)(base:Heap):Prop:=True
noncomputable def FB(K:W.Frag)(x qual:Str)(st:Stmt)(ps:List Str)(f:Addr):Prop:=∃ fd,Fun K x qual st f fd/\Binds K fd ps []
noncomputable def DD(K:W.Frag)(mg:Str->Option Value)(x:Str)(st:Stmt)(ps:List Str):Prop:=∃ f,mg x=some (.ref f)/\FB K x x st ps f
noncomputable def MM(K:W.Frag)(C:Addr)(x qual:Str)(st:Stmt)(ps:List Str):Prop:=∃ f,gQ K C x f/\FB K x qual st ps f
noncomputable def II(K:W.Frag)(C:Addr)(qual:Str)(st:Stmt)(ps:List Str):Prop:=∃ f,Mk K C f/\FB K "__init__" qual st ps f
theorem yO(l:K.lookup f=some ⟨oc,od,.func (W.fnOf x qual (c4 st) (cu st) (av st) .none kV dc pm an cd ct),sl⟩)(c:W.codeIn K cd qual=true)(k:W.keepIn K (.ref f)=true)(h:∀ (kV doc pm:Value) (an:Option Addr) (cdv ct:Value) (us:List Value),us.length=ps.length->bindArgs (W.fnOf x qual (c4 st) (cu st) (av st) .none kV doc pm an cdv ct) ⟨us,[]⟩=pure (ps.zip us)):FB K x qual st ps f:=
 ⟨_,jY l c k,(jY l c k).binds h⟩
theorem uZ{p:List Value->Prop}(h:p []):∀ us:List Value,us.length=0->p us
 | [],_=>h
theorem uC{p:List Value->Prop}(h:∀ a us,us.length=n->p (a::us)):∀ us:List Value,us.length=n+1->p us
 | a::us,e=>h a us (Nat.succ.inj e)
noncomputable def bA(x qual:Str)(st:Stmt)(ps:List Str)(us:List Value):Prop:=∀ (kV doc pm:Value) (an:Option Addr) (cdv ct:Value),bindArgs (W.fnOf x qual (c4 st) (cu st) (av st) .none kV doc pm an cdv ct) ⟨us,[]⟩=pure (ps.zip us)
theorem fbU(l:K.lookup f=some ⟨oc,od,.func (W.fnOf x qual (c4 st) (cu st) (av st) .none kV dc pm an cd ct),sl⟩)(c:W.codeIn K cd qual=true)(k:W.keepIn K (.ref f)=true)(h:∀ us:List Value,us.length=ps.length->bA x qual st ps us):FB K x qual st ps f:=
 yO l c k λ kV doc pm an cdv ct us e=>h us e kV doc pm an cdv ct
theorem fb0(l:K.lookup f=some ⟨oc,od,.func (W.fnOf x qual (c4 st) (cu st) (av st) .none kV dc pm an cd ct),sl⟩)(c:W.codeIn K cd qual=true)(k:W.keepIn K (.ref f)=true)(h:bA x qual st [] []):FB K x qual st [] f:=
 fbU l c k (uZ (p:=λ t=>bA x qual st [] (t)) (h))
theorem fb1(l:K.lookup f=some ⟨oc,od,.func (W.fnOf x qual (c4 st) (cu st) (av st) .none kV dc pm an cd ct),sl⟩)(c:W.codeIn K cd qual=true)(k:W.keepIn K (.ref f)=true)(h:∀ u0,bA x qual st [p0] [u0]):FB K x qual st [p0] f:=
 fbU l c k (uC (p:=λ t=>bA x qual st [p0] (t)) λ u0=>uZ (p:=λ t=>bA x qual st [p0] (u0::t)) (h u0))
theorem fb2(l:K.lookup f=some ⟨oc,od,.func (W.fnOf x qual (c4 st) (cu st) (av st) .none kV dc pm an cd ct),sl⟩)(c:W.codeIn K cd qual=true)(k:W.keepIn K (.ref f)=true)(h:∀ u0 u1,bA x qual st [p0,p1] [u0,u1]):FB K x qual st [p0,p1] f:=
 fbU l c k (uC (p:=λ t=>bA x qual st [p0,p1] (t)) λ u0=>uC (p:=λ t=>bA x qual st [p0,p1] (u0::t)) λ u1=>uZ (p:=λ t=>bA x qual st [p0,p1] (u0::u1::t)) (h u0 u1))
theorem fb3{p2:Str}(l:K.lookup f=some ⟨oc,od,.func (W.fnOf x qual (c4 st) (cu st) (av st) .none kV dc pm an cd ct),sl⟩)(c:W.codeIn K cd qual=true)(k:W.keepIn K (.ref f)=true)(h:∀ u0 u1 u2,bA x qual st [p0,p1,p2] [u0,u1,u2]):FB K x qual st [p0,p1,p2] f:=
 fbU l c k (uC (p:=λ t=>bA x qual st [p0,p1,p2] (t)) λ u0=>uC (p:=λ t=>bA x qual st [p0,p1,p2] (u0::t)) λ u1=>uC (p:=λ t=>bA x qual st [p0,p1,p2] (u0::u1::t)) λ u2=>uZ (p:=λ t=>bA x qual st [p0,p1,p2] (u0::u1::u2::t)) (h u0 u1 u2))
theorem fb4{p2 p3:Str}(l:K.lookup f=some ⟨oc,od,.func (W.fnOf x qual (c4 st) (cu st) (av st) .none kV dc pm an cd ct),sl⟩)(c:W.codeIn K cd qual=true)(k:W.keepIn K (.ref f)=true)(h:∀ u0 u1 u2 u3,bA x qual st [p0,p1,p2,p3] [u0,u1,u2,u3]):FB K x qual st [p0,p1,p2,p3] f:=
 fbU l c k (uC (p:=λ t=>bA x qual st [p0,p1,p2,p3] (t)) λ u0=>uC (p:=λ t=>bA x qual st [p0,p1,p2,p3] (u0::t)) λ u1=>uC (p:=λ t=>bA x qual st [p0,p1,p2,p3] (u0::u1::t)) λ u2=>uC (p:=λ t=>bA x qual st [p0,p1,p2,p3] (u0::u1::u2::t)) λ u3=>uZ (p:=λ t=>bA x qual st [p0,p1,p2,p3] (u0::u1::u2::u3::t)) (h u0 u1 u2 u3))
theorem fb5{p2 p3 p4:Str}(l:K.lookup f=some ⟨oc,od,.func (W.fnOf x qual (c4 st) (cu st) (av st) .none kV dc pm an cd ct),sl⟩)(c:W.codeIn K cd qual=true)(k:W.keepIn K (.ref f)=true)(h:∀ u0 u1 u2 u3 u4,bA x qual st [p0,p1,p2,p3,p4] [u0,u1,u2,u3,u4]):FB K x qual st [p0,p1,p2,p3,p4] f:=
 fbU l c k (uC (p:=λ t=>bA x qual st [p0,p1,p2,p3,p4] (t)) λ u0=>uC (p:=λ t=>bA x qual st [p0,p1,p2,p3,p4] (u0::t)) λ u1=>uC (p:=λ t=>bA x qual st [p0,p1,p2,p3,p4] (u0::u1::t)) λ u2=>uC (p:=λ t=>bA x qual st [p0,p1,p2,p3,p4] (u0::u1::u2::t)) λ u3=>uC (p:=λ t=>bA x qual st [p0,p1,p2,p3,p4] (u0::u1::u2::u3::t)) λ u4=>uZ (p:=λ t=>bA x qual st [p0,p1,p2,p3,p4] (u0::u1::u2::u3::u4::t)) (h u0 u1 u2 u3 u4))
theorem DD.cal(D:DD K mg x st ps)(b:Bs P w base)(h:∀ f fd,Fun K x x st f fd->FnOk P w K mg base CX k f fd ps sp):Cal P w K mg base CX k x ps sp:=
 let ⟨f,m,fd,F,b⟩:=D;⟨f,fd,h f fd F,m,F.kp,b⟩
theorem MM.cal(D:MM K C x qual st ps)(b:Bs P w base)(h:∀ f fd,Fun K x qual st f fd->FnOk P w K mg base CX k f fd ps sp):bB P w K mg base CX k C x ps sp:=
 let ⟨f,m,fd,F,b⟩:=D;⟨f,fd,h f fd F,m,b⟩
theorem II.cal(D:II K C qual st ps)(b:Bs P w base)(h:∀ f fd,Fun K "__init__" qual st f fd->FnOk P w K mg base CX k f fd ps sp):iJ P w K mg base CX k C ps sp:=
 let ⟨f,m,fd,F,b⟩:=D;⟨f,fd,h f fd F,m,b⟩
theorem DD.rec(D:DD K mg x st ps)(b:Bs P w base){sp:Nat->Sp}(h0:∀ vs H Q E,¬ sp 0 vs H Q E)(h:∀ m f fd,Cal P w K mg base CX (k+m) x ps (sp m)->Fun K x x st f fd->FnOk P w K mg base CX (k+m+1) f fd ps (sp (m+1))):∀ m,Cal P w K mg base CX (k+m) x ps (sp m)
 | 0=>D.cal b λ f fd F=>⟨λ vs H Q E z=>(h0 vs H Q E z).elim,λ A o s H a us vs Q E _ _ _ _ z=>(h0 vs H Q E z).elim⟩
 | m+1=>D.cal b λ f fd F=>h m f fd (DD.rec D b h0 h m) F
end
theorem cut_take(xs:List V)(n:Nat):bw xs none (some (n:Int))=xs.take n:=by
 unfold bw;rw [HT.sIx_none,HT.sIx_nat,List.drop_zero,Nat.sub_zero];rcases Nat.le_total n xs.length with h | h
 ·rw [Nat.min_eq_left h]
 ·rw [Nat.min_eq_right h,List.take_of_length_le (Nat.le_refl _),List.take_of_length_le h]
theorem cut_drop(xs:List V){b:Nat}(h:b<=xs.length):bw xs (some (b:Int)) none=xs.drop b:=by
 unfold bw;rw [HT.sIx_none,HT.sIx_nat,Nat.min_eq_left h,List.take_of_length_le (by simp)]
theorem PI.alt{wa wb:TI}(ha:PI X tg e wa)(hb:PI X tg e wb):PI X tg e (λ σ H R=>wa σ H R\/wb σ H R):=λ pins s σ H R I h=>h.elim (ha pins s σ H R I) (hb pins s σ H R I)
theorem bH{t u:TS}(h:∀ N:St->Hp->Prop,(∀ σ' H',u D σ' H'->N σ' H')->t { D with nx:=N } σ H):eh t u D σ H:=h _ λ _ _ x=>x
section
variable {xs:List Stmt} {t u:TS}
end
section
variable (K:W.Frag)
theorem i9(h:X.K=K:=by rfl):OpR X (binaryOp .Add) (kq K):=h ▸ zdA
noncomputable def zeI:List V->Hp->VK->Prop:=λ xs H Q=>∃ p ys,xs=[.ref p]/\((SqL K H p ys/\∀ l,H l=none->Q (.ref l) (upd H l (.tup ys)))\/(SqT K H p ys/\Q (.ref p) H))
theorem yf(h:X.K=K:=by rfl):CallR X (.type "tuple") (zeI K):=by subst h;exact ye
end
structure PPn (X:Cx) (pos:Pos) (keys:List (Option Expr)) (values:List Expr) (trs:List (TE × TE)) (n:Nat):Prop where
 h:PPs X pos keys values trs
 all:keys.all (·.isSome)=true
 lk:keys.length=n
 lv:values.length=n
theorem zd9   : PPn X pos [] [] [] 0:=⟨zeb,rfl,rfl,rfl⟩
theorem fJ{k v:Expr}{vs:List Expr}{tk:TE}(hk:PE X k tk)(hv:PE X v tv)(hr:PPn X pos ks vs trs n):PPn X pos (some k::ks) (v::vs) ((tk,tv)::trs) (n+1):=
 ⟨zea hk hv hr.h,by rw [List.all_cons,hr.all];rfl,congrArg (· + 1) hr.lk,congrArg (· + 1) hr.lv⟩
theorem zdW{keys:List (Option Expr)}(h:PPn X pos keys values trs (n+1))(h15:n+1<=15):PE X (.Dict keys values pos) (kG trs):=
 zdV h.h h.all (h.lk.trans h.lv.symm) (λ e=>by have:=h.lk;rw [e] at this;cases this) (by rw [h.lk];exact h15)
structure PEw (X:Cx) (e:Expr) (t:TE):Prop where
 h:PE X e t
structure PSw (X:Cx) (b:List Stmt) (t:TS):Prop where
 h:PSs X b t
theorem zdX{keys:List (Option Expr)}(h:PPn X pos keys values trs (n+1))(h15:n+1<=15):PEw X (.Dict keys values pos) (kG trs):=⟨zdW h h15⟩
theorem zej{r:List Stmt}{tr:TS}(hN:X.N.Nodup)(hi:X.N[i]?=some x)(hx:Loc X.env.scope x)(he:PEw X e te)(hr:PSs X r tr)(hs:swapsWith e (some (.Name x pos')) pos.line X.env=pure false:=by rfl)(hf:X.fn x=true\/X.env.scope.names.lookup x=some .local:=by first | exact .inl rfl | exact .inr rfl | assumption):PSw X (.Assign [.Name x pos'] e pos::r) (eh (gF te (dC i)) tr):=
 ⟨ak (aE hN hi hx he.h hs hf) hr⟩
theorem zn{b:List Stmt}{R:TS->Prop}(h:∃ t,PSw X b t/\R t):∃ t,PSs X b t/\R t:=let ⟨t,h1,h2⟩:=h;⟨t,h1.h,h2⟩
section
variable {k:Nat} {f T:Addr} {kV dc:Value}
noncomputable def FC(K:W.Frag)(x:Str)(st:Stmt)(ps:List Str)(f c T:Addr):Prop:=W.keepIn K (.ref f)=true/\∃ fd,FunC K x x st f fd c T/\Binds K fd ps []
noncomputable def DC(K:W.Frag)(mg:Str->Option Value)(x:Str)(st:Stmt)(ps:List Str)(c T:Addr):Prop:=∃ f,mg x=some (.ref f)/\FC K x st ps f c T
theorem DC.cal(D:DC K mg x st ps c T)(b:Bs P w base)(h:∀ f fd,FunC K x x st f fd c T->FnOk P w K mg base CX k f fd ps sp):Cal P w K mg base CX k x ps sp:=
 let ⟨f,m,kp,fd,F,b⟩:=D;⟨f,fd,h f fd F,m,kp,b⟩
theorem DC.hd(D:DC K mg x st ps c T):W.codeHdIn K c T=true:=let ⟨_,_,_,_,F,_⟩:=D;F.hd
theorem fc2(l:K.lookup f=some ⟨oc,od,.func (W.fnOf x x (c4 st) (cu st) (av st) .none kV dc pm an (.ref c) ct),sl⟩)(cd:W.codeIn K (.ref c) x=true)(hd:W.codeHdIn K c T=true)(k:W.keepIn K (.ref f)=true)(h:∀ u0 u1,bA x x st [p0,p1] [u0,u1]):FC K x st [p0,p1] f c T:=
 ⟨k,_,⟨⟨oc,od,kV,dc,pm,an,ct,sl,rfl,l,cd⟩,hd⟩,(jY l cd k).binds λ kV doc pm an cdv ct us e=>uC (p:=λ t=>bA x x st [p0,p1] t) (λ u0=>uC (p:=λ t=>bA x x st [p0,p1] (u0::t)) λ u1=>uZ (p:=λ t=>bA x x st [p0,p1] (u0::u1::t)) (h u0 u1)) us e kV doc pm an cdv ct⟩
end
end L2
set_option maxHeartbeats 8000000
namespace T1
open PySem L2
local macro_rules | `(tactic| walk_at "sc")=>`(tactic| exact ⟨rfl,rfl,rfl,by decide +kernel,rfl,by decide +kernel,by decide +kernel⟩)
variable {b d e j k n:Nat} {l ns:List Int} {M i m:Int} {C a a' c dx f g p r:Addr} {P:Program} {w:World} {K:W.Frag} {mg:Str->Option Value} {base:Heap} {fd:FuncData} {H H' H1 H2 H4:Hp} {Q:VK} {q x:Str} {α:Type} {zs:List V} {o:HO} {es:Array DictEntry} {A B L X:List Nat} {E:XK} {sp:Sp} {σ:St} {pos:Pos} {te:TE} {ksl:Array (Option Value)}
noncomputable abbrev OI:=Option Int
variable {each xs:List OI} {v:OI}
noncomputable def aI(n:Nat):Nat:=if h:n=0 then 0 else aI (n / 2)+1
termination_by n
decreasing_by omega
theorem tF:aI 0=0:=by rw [aI];simp
theorem zbZ(h:0 < n):aI n=aI (n / 2)+1:=by
 rw [aI,dif_neg (by omega)]
noncomputable def bD(d:Int):Int:=if 0<=d then 2 * d else -2 * d - 1
theorem md(d:Int):0<=bD d:=by unfold bD;split <;> omega
structure Ty where
 length:Nat
 last:OI
 runs:Nat
 book:List OI
 none:Bool
 least:OI
 greatest:OI
 widest:Int
variable {y:Ty}
noncomputable def fw(m:OI)(i:Int):Int:=match m with | .none=>i | .some k=>if i < k then i else k
noncomputable def dL(m:OI)(i:Int):Int:=match m with | .none=>i | .some k=>if k < i then i else k
noncomputable def Ty.add(t:Ty)(v:OI):Ty where
 length:=t.length+1
 last:=v
 runs:=if t.length=0\/v≠t.last then t.runs+1 else t.runs
 book:=if v∈t.book then t.book else t.book++[v]
 none:=if v = .none then true else t.none
 least:=match v with | .none=>t.least | .some i=>some (fw t.least i)
 greatest:=match v with | .none=>t.greatest | .some i=>some (dL t.greatest i)
 widest:=match v with
  | .none=>t.widest
  | .some i=>if 0 < t.length/\t.none=false then (if bD (i - t.last.getD 0) > t.widest then bD (i - t.last.getD 0) else t.widest) else t.widest
noncomputable def Ty.zero:Ty:=⟨0,.none,0,[],false,.none,.none,0⟩
noncomputable def aq(xs:List OI):Ty:=xs.foldl Ty.add Ty.zero
theorem iD:aq []=Ty.zero:=rfl
theorem vT(xs:List OI)(v:OI):aq (xs++[v])=(aq xs).add v:=by
 unfold aq;rw [List.foldl_append];rfl
noncomputable def at'(xs:List OI)(k:Nat):OI:=xs.getD k .none
theorem at'_of(h:xs[k]?=some v):at' xs k=v:=by
 unfold at';simp [List.getD,h]
theorem cE(h:n < xs.length):xs.take (n+1)=xs.take n++[at' xs n]:=by
 rw [List.take_add_one,aH h,at'_of (aH h)];rfl
theorem fP(h:n < xs.length):aq (xs.take (n+1))=(aq (xs.take n)).add (at' xs n):=by
 rw [cE h,vT]
theorem vR(xs:List OI):(aq xs).length=xs.length:=by
 have key:∀ (n:Nat),n<=xs.length->(aq (xs.take n)).length=n:=by
  intro n;induction n with
  | zero=>intro _;simp [iD,Ty.zero]
  | succ n ih=>intro h;rw [fP h];show (aq (xs.take n)).length+1=_;rw [ih (by omega)]
 have:=key xs.length (Nat.le_refl _)
 rwa [aX] at this
theorem zgq(h:n < xs.length):(aq (xs.take (n+1))).last=at' xs n:=by
 rw [fP h];rfl
noncomputable def dif(xs:List OI):Nat->Nat
 | 0=>0
 | n+1=>dif xs n+(if 1<=n/\at' xs n≠at' xs (n - 1) then 1 else 0)
noncomputable def fst(xs:List OI):Nat->List OI
 | 0=>[]
 | n+1=>if at' xs n∈xs.take n then fst xs n else fst xs n++[at' xs n]
theorem mf(xs:List OI)(n:Nat):fst xs (n+1)=if at' xs n∈xs.take n then fst xs n else fst xs n++[at' xs n]:=rfl
theorem mF  : ∀ (n:Nat) (v:OI),n<=xs.length->(v∈(aq (xs.take n)).book↔v∈xs.take n):=by
 intro n;induction n with
 | zero=>intro v _;simp [iD,Ty.zero]
 | succ n ih=>
  intro v h;rw [fP h,cE h];show v∈(if at' xs n∈(aq (xs.take n)).book then (aq (xs.take n)).book else (aq (xs.take n)).book++[at' xs n])↔_;by_cases e:at' xs n∈(aq (xs.take n)).book
  ·rw [if_pos e,ih v (by omega),al_mp];constructor
   ·exact Or.inl
   ·rintro (q | q)
    ·exact q
    ·have:v=at' xs n:=by simpa using q
     rw [this];exact (ih _ (by omega)).mp e
  ·rw [if_neg e,al_mp,al_mp,ih v (by omega)]
theorem pT  : ∀ (n:Nat),n<=xs.length->(aq (xs.take n)).book=fst xs n:=by
 intro n;induction n with
 | zero=>intro _;simp [iD,Ty.zero,fst]
 | succ n ih=>
  intro h;rw [fP h];show (if at' xs n∈(aq (xs.take n)).book then (aq (xs.take n)).book else (aq (xs.take n)).book++[at' xs n])=_;rw [ih (by omega),mf];have q:=mF n (at' xs n) (show n<=xs.length by omega);rw [ih (by omega)] at q;by_cases e:at' xs n∈fst xs n
  ·rw [if_pos e,if_pos (q.mp e)]
  ·rw [if_neg e,if_neg (λ z=>e (q.mpr z))]
theorem me(xs:List OI):∀ n,(fst xs n).length<=n
 | 0=>Nat.le_refl _
 | n+1=>by
  rw [mf];have:=me xs n
  split
  ·omega
  ·rw [bc,dF];omega
theorem se{xs:List OI}:∀ {n:Nat},0 < n->0 < (fst xs n).length
 | n+1,_=>by
  cases n with
  | zero=>simp [fst]
  | succ m=>
   have:=se (xs:=xs) (n:=m+1) (by omega);rw [mf]
   split
   ·exact this
   ·rw [bc];omega
theorem vS  : ∀ (n:Nat),n<=xs.length->((aq (xs.take n)).none=true↔.none∈xs.take n):=by
 intro n;induction n with
 | zero=>intro _;simp [iD,Ty.zero]
 | succ n ih=>
  intro h;rw [fP h,cE h];show (if at' xs n = .none then true else (aq (xs.take n)).none)=true↔_;by_cases e:at' xs n = .none
  ·simp [e]
  ·rw [if_neg e,ih (by omega),al_mp];constructor
   ·exact Or.inl
   ·rintro (q | q)
    ·exact q
    ·exact absurd (by simpa using q:(.none:OI)=at' xs n).symm e
noncomputable def aZ(xs:List OI):List Int:=xs.filterMap id
theorem pd(xs:List OI):aZ (xs++[.none])=aZ xs:=by simp [aZ]
theorem pf(xs:List OI)(i:Int):aZ (xs++[.some i])=aZ xs++[i]:=by simp [aZ]
noncomputable def cb:List Int->OI
 | []=>.none
 | x::r=>some (r.foldl (λ m i=>if i < m then i else m) x)
noncomputable def c7:List Int->OI
 | []=>.none
 | x::r=>some (r.foldl (λ m i=>if m < i then i else m) x)
theorem za9(l:List Int)(i:Int):cb (l++[i])=some (fw (cb l) i):=by
 cases l with
 | nil=>rfl
 | cons x r=>simp [cb,fw,List.foldl_append]
theorem za1(l:List Int)(i:Int):c7 (l++[i])=some (dL (c7 l) i):=by
 cases l with
 | nil=>rfl
 | cons x r=>simp [c7,dL,List.foldl_append]
theorem zgs  : ∀ (n:Nat),n<=xs.length->(aq (xs.take n)).least=cb (aZ (xs.take n))/\(aq (xs.take n)).greatest=c7 (aZ (xs.take n)):=by
 intro n;induction n with
 | zero=>intro _;simp [iD,Ty.zero,aZ,cb,c7]
 | succ n ih=>
  intro h;obtain ⟨h1,h2⟩:=ih (by omega);rw [fP h,cE h];cases e:at' xs n with
  | none=>rw [pd];exact ⟨h1,h2⟩
  | some i=>
   rw [pf,za9,za1];show some (fw (aq (xs.take n)).least i)=_/\some (dL (aq (xs.take n)).greatest i)=_;rw [h1,h2];exact ⟨rfl,rfl⟩
noncomputable def above(m:Int)(v:OI):Int:=match v with | .none=>0 | .some i=>i - m+1
theorem il(h:cb l=some m):∀ i∈l,m<=i:=by
 cases l with
 | nil=>cases h
 | cons x r=>
  simp [cb] at h;have key:∀ (r:List Int) (x:Int),r.foldl (λ m i=>if i < m then i else m) x<=x/\∀ i∈r,r.foldl (λ m i=>if i < m then i else m) x<=i:=by
   intro r;induction r with
   | nil=>intro x;simp
   | cons y r ih=>
    intro x;simp only [List.foldl_cons];obtain ⟨a,b⟩:=ih (if y < x then y else x);have le:(if y < x then y else x)<=x/\(if y < x then y else x)<=y:=by split <;> omega
    refine ⟨by omega,λ i hi=>?_⟩;rcases al_mc.mp hi with rfl | hi
    ·omega
    ·exact b i hi
  obtain ⟨a,b⟩:=key r x;intro i hi;rcases al_mc.mp hi with rfl | hi
  ·omega
  ·have:=b i hi;omega
theorem mD(h:c7 l=some m):∀ i∈l,i<=m:=by
 cases l with
 | nil=>cases h
 | cons x r=>
  simp [c7] at h;have key:∀ (r:List Int) (x:Int),x<=r.foldl (λ m i=>if m < i then i else m) x/\∀ i∈r,i<=r.foldl (λ m i=>if m < i then i else m) x:=by
   intro r;induction r with
   | nil=>intro x;simp
   | cons y r ih=>
    intro x;simp only [List.foldl_cons];obtain ⟨a,b⟩:=ih (if x < y then y else x);have le:x<=(if x < y then y else x)/\y<=(if x < y then y else x):=by split <;> omega
    refine ⟨by omega,λ i hi=>?_⟩;rcases al_mc.mp hi with rfl | hi
    ·omega
    ·exact b i hi
  obtain ⟨a,b⟩:=key r x;intro i hi;rcases al_mc.mp hi with rfl | hi
  ·omega
  ·have:=b i hi;omega
theorem j7(h:c7 l=some m):m∈l:=by
 cases l with
 | nil=>cases h
 | cons x r=>
  simp [c7] at h;have key:∀ (r:List Int) (x:Int),r.foldl (λ m i=>if m < i then i else m) x=x\/r.foldl (λ m i=>if m < i then i else m) x∈r:=by
   intro r;induction r with
   | nil=>intro x;simp
   | cons y r ih=>
    intro x;simp only [List.foldl_cons];rcases ih (if x < y then y else x) with a | a
    ·rw [a]
     split
     ·right;simp
     ·left;rfl
    ·right;exact bp _ a
  rcases key r x with a | a
  ·rw [← h,a];simp
  ·rw [← h];exact bp _ a
theorem i3(h:cb l=some m):m∈l:=by
 cases l with
 | nil=>cases h
 | cons x r=>
  simp [cb] at h;have key:∀ (r:List Int) (x:Int),r.foldl (λ m i=>if i < m then i else m) x=x\/r.foldl (λ m i=>if i < m then i else m) x∈r:=by
   intro r;induction r with
   | nil=>intro x;simp
   | cons y r ih=>
    intro x;simp only [List.foldl_cons];rcases ih (if y < x then y else x) with a | a
    ·rw [a]
     split
     ·right;simp
     ·left;rfl
    ·right;exact bp _ a
  rcases key r x with a | a
  ·rw [← h,a];simp
  ·rw [← h];exact bp _ a
theorem za0(h1:m∈l)(h2:∀ i∈l,i<=m):c7 l=some m:=by
 cases e:c7 l with
 | none=>cases l with
  | nil=>cases h1
  | cons x r=>cases e
 | some k=>
  have a:=mD e m h1;have b:=h2 k (j7 e);rw [show k=m by omega]
theorem mem_somes   : i∈aZ xs↔some i∈xs:=by
 simp [aZ]
noncomputable def stp(xs:List OI):Nat->List Int
 | 0=>[]
 | n+1=>if 1<=n then stp xs n++[bD ((at' xs n).getD 0 - (at' xs (n - 1)).getD 0)] else stp xs n
noncomputable def xX(xs:List OI):OI:=if 64 < (fst xs xs.length).length then .none else some (11+(6+24 * (fst xs xs.length).length+(aI ((fst xs xs.length).length - 1):Int) * xs.length))
noncomputable def zq(xs:List OI):Int:=match cb (aZ xs),c7 (aZ xs) with | some a,some b=>b - a+1 | _,_=>0
noncomputable def xM(xs:List OI):Int:=11+(24+5+(aI (zq xs).toNat:Int) * xs.length)
noncomputable def zfQ(xs:List OI):OI:=if .none∈xs then .none else some (11+(24+5+(aI (aq xs).widest.toNat:Int) * (xs.length - 1)))
noncomputable def zhr(xs:List OI):List OI:=[some (11+24 * xs.length),some (11+(8+(24+8) * (1+dif xs xs.length:Nat))),xX xs,some (xM xs),zfQ xs]
noncomputable def top(i:Nat):Stmt:=PySem.Challenge.pw_tightrows_k21_no_questions.main.body.getD i (.Pass ⟨0,0,0,0⟩)
noncomputable abbrev oF:Stmt:=top 12
noncomputable abbrev og:Stmt:=top 13
noncomputable abbrev nq:Stmt:=cK (top 14) 0
noncomputable abbrev nn:Stmt:=cK (top 14) 1
noncomputable abbrev nu:Stmt:=cK (top 14) 2
noncomputable abbrev nv:Stmt:=cK (top 14) 3
noncomputable abbrev kx:Stmt:=top 28
noncomputable abbrev oj:Stmt:=top 29
noncomputable abbrev nI:Stmt:=top 30
noncomputable abbrev oh:Stmt:=top 31
noncomputable abbrev nP:Stmt:=top 32
noncomputable abbrev nU:Stmt:=top 33
noncomputable abbrev oa:Stmt:=top 34
noncomputable abbrev o0:Stmt:=top 35
noncomputable abbrev nD:Stmt:=cK (top 36) 0
noncomputable abbrev ny:Stmt:=cK (top 36) 1
noncomputable abbrev nA:Stmt:=cK (top 36) 2
noncomputable abbrev nC:Stmt:=cK (top 36) 3
noncomputable abbrev nB:Stmt:=cK (top 36) 4
noncomputable abbrev nG:Stmt:=cK (top 36) 5
noncomputable abbrev nF:Stmt:=cK (top 36) 6
noncomputable abbrev nE:Stmt:=cK (top 36) 7
noncomputable abbrev oX:Stmt:=top 37
noncomputable abbrev oQ:Stmt:=top 38
noncomputable abbrev nK:Stmt:=top 39
noncomputable abbrev o4:Stmt:=top 40
noncomputable abbrev oH:Stmt:=top 41
noncomputable abbrev oV:Stmt:=top 42
noncomputable abbrev oU:Stmt:=top 43
noncomputable abbrev nO:Stmt:=top 44
noncomputable abbrev n9:Stmt:=top 45
noncomputable abbrev nJ:Stmt:=top 46
noncomputable abbrev oW:Stmt:=top 47
noncomputable abbrev oG:Stmt:=top 49
noncomputable abbrev oP:Stmt:=top 50
noncomputable abbrev oM:Stmt:=top 51
noncomputable abbrev oN:Stmt:=top 52
noncomputable abbrev oK:Stmt:=top 53
noncomputable abbrev oI:Stmt:=top 54
noncomputable abbrev oO:Stmt:=top 55
noncomputable abbrev oJ:Stmt:=top 57
noncomputable abbrev o3:Stmt:=top 58
noncomputable abbrev oi:Stmt:=top 63
noncomputable abbrev nY:Stmt:=top 64
noncomputable abbrev nR:Stmt:=top 65
noncomputable abbrev oY:Stmt:=top 66
noncomputable abbrev nX:Stmt:=top 67
noncomputable abbrev kr:Stmt:=top 68
noncomputable abbrev nV:Stmt:=top 69
noncomputable abbrev nH:Stmt:=top 70
noncomputable abbrev oE:Stmt:=top 71
noncomputable abbrev ky:Stmt:=top 72
noncomputable abbrev nQ:Stmt:=top 75
noncomputable abbrev oS:Stmt:=top 76
noncomputable abbrev nL:Stmt:=top 77
noncomputable abbrev oR:Stmt:=top 78
noncomputable abbrev oB:Stmt:=top 79
noncomputable abbrev oC:Stmt:=top 80
noncomputable abbrev nZ:Stmt:=top 81
noncomputable abbrev nM:Stmt:=top 82
noncomputable abbrev oZ:Stmt:=top 83
noncomputable abbrev ng:Stmt:=cK (top 87) 0
noncomputable abbrev m8:Stmt:=cK (top 87) 6
noncomputable abbrev nh:Stmt:=cK (top 87) 7
noncomputable abbrev ni:Stmt:=cK (top 87) 8
noncomputable abbrev na:Stmt:=cK (top 87) 9
noncomputable abbrev nj:Stmt:=cK (top 87) 10
noncomputable abbrev m9:Stmt:=cK (top 87) 11
noncomputable abbrev ol:Stmt:=top 89
noncomputable abbrev oq:Stmt:=top 90
noncomputable abbrev oz:Stmt:=top 91
noncomputable abbrev oA:Stmt:=top 92
noncomputable abbrev ou:Stmt:=top 93
noncomputable abbrev ow:Stmt:=top 94
noncomputable abbrev om:Stmt:=top 95
noncomputable abbrev ox:Stmt:=top 96
noncomputable abbrev oy:Stmt:=top 97
noncomputable abbrev gC:Stmt:=top 98
noncomputable def kindsS:List Str:=["plain", "runs", "book", "base", "steps"]
noncomputable def kindsV:List V:=kindsS.map V.str
structure Ad where
 aT:Addr
 au:Addr
 bv:Addr
 hJ:Addr
 de:Addr
 eB:Addr
 fm:Addr
 hG:Addr
 bx:Addr
 g9:Addr
 g0:Addr
 g8:Addr
 dU:Addr
 gm:Addr
 p_check_question_of:Addr
 gp:Addr
 p_marked_values:Addr
variable {t:Ad}
structure Txt (K:W.Frag) (mg:Str->Option Value) (t:Ad):Prop where
 y8:mg "Reader" = some (.ref t.aT)
 bQ:Cls K t.aT
 iL:NoAttr K t.aT "text"
 gj:NoAttr K t.aT "place"
 sh:mg "Tally" = some (.ref t.au)
 aQ:Cls K t.au
 eN:NoAttr K t.au "length"
 iM:NoAttr K t.au "last"
 jJ:NoAttr K t.au "runs"
 lI:NoAttr K t.au "book"
 jI:NoAttr K t.au "has_none"
 gk:NoAttr K t.au "least"
 gU:NoAttr K t.au "greatest"
 jK:NoAttr K t.au "widest"
 y3:mg "Column" = some (.ref t.bv)
 eA:Cls K t.bv
 qp:NoAttr K t.bv "lying"
 si:∃ k,mg "FARTHEST" = some (.int 4000000 k)
 jZ:∃ k,mg "SHIFT" = some (.int 4000001 k)
 ze:∃ k,mg "MOST_IN_BLOCK" = some (.int 100 k)
 zf:∃ k,mg "MOST_IN_BOOK" = some (.int 64 k)
 mo:∃ k,mg "KIND_BITS" = some (.int 3 k)
 mq:∃ k,mg "LENGTH_BITS" = some (.int 8 k)
 fq:∃ k,mg "VALUE_BITS" = some (.int 24 k)
 mr:∃ k,mg "RUNS_BITS" = some (.int 8 k)
 ms:∃ k,mg "TIMES_BITS" = some (.int 8 k)
 mn:∃ k,mg "BOOK_BITS" = some (.int 6 k)
 iV:∃ k,mg "WIDTH_BITS" = some (.int 5 k)
 zh:∃ k,mg "MOST_WITHIN" = some (.int 6 k)
 zg:∃ k,mg "MOST_IN_COLUMN" = some (.int 64 k)
 hV:mg "KINDS" = some (.ref t.dU)
 ij:∀ H,SqT K H t.dU kindsV
 sG:∃ o,K.lookup t.dU=some o/\o.cls = .type "tuple" /\ o.dict=none
 y9:mg "RowsError" = some (.ref t.hJ)
 mi:mg "BadValue" = some (.ref t.de)
 wj:ExcC K t.de
 ml:mg "NoPacking" = some (.ref t.eB)
 wl:ExcC K t.eB
 mh:mg "BadBits" = some (.ref t.fm)
 wg:ExcC K t.fm
 y6:mg "NoRow" = some (.ref t.hG)
 hU:mg "BadQuestion" = some (.ref t.bx)
 ju:ExcC K t.bx
 z8:gi K t.bx
 zaz:W.exmOne K (.ref t.bx) (.ref t.hJ)=some true
 zgM:W.kitOne K (.ref t.bx) (.type "ValueError")=some true
 zA:W.kitOne K (.ref t.bx) (.ref t.de)=some false
 zC:W.kitOne K (.ref t.bx) (.ref t.eB)=some false
 zu:W.kitOne K (.ref t.bx) (.ref t.fm)=some false
 zD:W.kitOne K (.ref t.bx) (.ref t.hG)=some false
 zw:W.kitOne K (.ref t.bx) (.ref t.bx)=some true
 zB:W.kitOne K (.ref t.bx) (.ref t.g9)=some false
 zx:W.kitOne K (.ref t.bx) (.ref t.g0)=some false
 zy:W.kitOne K (.ref t.bx) (.ref t.g8)=some false
 y4:mg "NoColumn" = some (.ref t.g9)
 yZ:mg "BadRow" = some (.ref t.g0)
 y0:mg "BadTable" = some (.ref t.g8)
 ii:W.kitOne K (.type "int") (.type "int")=some true
 ib:W.kitOne K (.type "int") (.type "bool")=some false
 zL:W.kitOne K (.type "list") (.type "list")=some true
 z7:W.kitOne K (.type "tuple") (.type "tuple")=some true
 zY:W.kitOne K (.type "str") (.type "str")=some true
 zbr:mg "ValueError" = none
 mH:mg "all" = none
 zbx:mg "bool" = none
 tD:mg "dict" = none
 zb0:mg "enumerate" = none
 mL:mg "int" = none
 dE:mg "isinstance" = none
 bE:mg "len" = none
 ka:mg "list" = none
 i5:mg "max" = none
 i6:mg "min" = none
 d4:mg "range" = none
 zca:mg "reversed" = none
 zcb:mg "str" = none
 zcc:mg "sum" = none
 tI:mg "tuple" = none
 i8:mg "zip" = none
theorem mK(n:Nat):aI n=if n=0 then 0 else n.log2+1:=by
 induction n using Nat.strongRecOn with
 | ind n ih=>
  by_cases h:n=0
  ·subst h;simp [tF]
  ·rw [if_neg h,zbZ (by omega),Nat.log2_def];by_cases h2:2<=n
   ·rw [if_pos h2,ih (n / 2) (by omega),if_neg (by omega)]
   ·rw [if_neg h2,show n / 2=0 by omega,tF]
noncomputable def okV:OI->Bool
 | .none=>true
 | .some i=>decide (-4000000<=i/\i<=4000000)
noncomputable def okB(xs:List OI):Bool:=decide (1<=xs.length/\xs.length<=100) && xs.all okV
noncomputable def ov:OI->V
 | .none=>.non
 | .some i=>.int i
theorem zdH(o:OI):cj (ov o)=true:=by cases o <;> rfl
theorem zdK(xs:List OI):(xs.map ov).all cj=true:=by
 rw [List.all_eq_true];intro x hx;obtain ⟨o,_,rfl⟩:=List.mem_map.mp hx;exact zdH o
theorem zdI{a b:OI}(h:ov a=ov b):a=b:=by
 cases a <;> cases b <;> first | rfl | (injection h with h;rw [h]) | cases h
theorem f9(a b:OI):pc (ov a) (ov b)=true:=by cases a <;> cases b <;> rfl
theorem tM(a b:OI):decide (ov a=ov b)=decide (a=b):=by
 by_cases h:a=b
 ·subst h;simp
 ·rw [aM h,aM λ z=>h (zdI z)]
theorem zdG(a b:OI):eqV (ov a) (ov b)=decide (a=b):=by
 cases a <;> cases b <;> simp [ov,eqV]
 rename_i i j
 by_cases h:i=j
 ·subst h;simp
 ·simp [h]
noncomputable def gE:Sp:=λ vs H Q _=>∃ n:Int,vs=[.int n]/\0<=n/\Q (.int (aI n.toNat)) H
theorem zfs:aA ["number"] ["number"] (av oF):=by walk_at "sc"
theorem xU{n:Int}(h:0<=n):((Builtin.Int.intBits n:Nat):Int)=(aI n.toNat:Int):=by
 rw [mK];unfold Builtin.Int.intBits;by_cases e:n=0
 ·subst e;simp
 ·have e':(n == 0)=false:=by simpa using e
  rw [e',if_neg (by decide),if_neg (by omega),show n.natAbs=n.toNat by omega]
theorem zc5(F:Fun K "needed" "needed" oF f fd):FnOk P w K mg base CX0 1 f fd ["number"] gE:=by
 refine F.ok zfs (λ vs H Q E h=>?_) (λ cdv A outer s H vs Q E hr h=>?_)
 ·obtain ⟨n,rfl,_⟩:=h;rfl
 ·obtain ⟨n,rfl,h0,k⟩:=h;refine ⟨_,ao (ay (zdP PySem.F.plainAttrs_int PySem.F.slot_int_bit_length PySem.F.type_int_bit_length zbi (pv 0))),?_⟩;refine ⟨_,rfl,rfl,n,rfl,rfl,?_⟩;rw [xU h0];exact k
noncomputable def vd:Sp:=λ vs H Q _=>∃ i:Int,vs=[.int i]/\Q (.bl true) H
theorem zfp:aA ["thing"] ["thing"] (av kx):=by walk_at "sc"
theorem tL(T:Txt K mg t)(F:Fun K "is_whole" "is_whole" kx f fd):FnOk P w K mg base CX0 1 f fd ["thing"] vd:=by
 refine F.ok zfp (λ vs H Q E h=>?_) (λ cdv A outer s H vs Q E hr h=>?_)
 ·obtain ⟨n,rfl,_⟩:=h;rfl
 ·obtain ⟨i,rfl,k⟩:=h;refine ⟨_,(ao (ay (ke (aP (dr K) (by rfl) T.dE PyProof.Rows.Boot.«isinstance» (aa (pv 0) (aa (ix T.mL PyProof.Rows.Boot.«int») ad))) (iw (tY (aP (dr K) (by rfl) T.dE PyProof.Rows.Boot.«isinstance» (aa (pv 0) (aa (ix T.zbx PyProof.Rows.Boot.«bool») ad)))))))),?_⟩;refine ⟨_,rfl,_,_,_,rfl,iW (.int i) T.ii,_,rfl,?_⟩;refine aw ⟨_,rfl,_,_,_,rfl,iW (.int i) T.ib,_,rfl,?_⟩;exact k
noncomputable def vc:Sp:=λ vs H Q _=>∃ o:OI,vs=[ov o]/\Q (.bl (okV o)) H
theorem zfo:aA ["value"] ["value"] (av oj):=by walk_at "sc"
theorem zcN(T:Txt K mg t)(lf:Cal P w K mg base CX0 1 "is_whole" ["thing"] vd)(F:Fun K "is_value" "is_value" oj f fd):FnOk P w K mg base CX0 2 f fd ["value"] vc:=by
 refine F.ok zfo (λ vs H Q E h=>?_) (λ cdv A outer s H vs Q E hr h=>?_)
 ·obtain ⟨n,rfl,_⟩:=h;rfl
 ·obtain ⟨o,rfl,k⟩:=h;refine ⟨_,(ao (ay (tZ (fE d5 (pv 0) bN (aF _)) (iw (ke (lf.pe hr ax (aa (pv 0) ad)) (iw (tQ kc kc (dl dm (bf T.si)) (pv 0) (bf T.si)))))))),?_⟩;refine ⟨_,rfl,rfl,_,rfl,?_⟩;cases o with
  | none=>exact aw k
  | some i=>
   refine ap ?_;refine ⟨_,rfl,i,rfl,_,rfl,?_⟩;refine aw ?_;refine ⟨_,rfl,_,rfl,_,_,rfl,rfl,_,rfl,?_⟩;by_cases h1 : -4000000<=i
   ·rw [aO h1];refine aw ⟨_,_,rfl,rfl,?_⟩;have e:okV (some i)=decide (i<=4000000):=by simp [okV,h1]
    show Q (.bl (decide (i<=4000000))) H;rw [← e];exact k
   ·rw [aM h1];refine ap ?_;have e:okV (some i)=false:=by simp [okV,h1]
    show Q (.bl false) H;rw [← e];exact k
theorem zbY:(["value"]:List Str).Nodup:=by decide +kernel
noncomputable def pj(K:W.Frag):Sp:=λ vs H Q _=>∃ (p:Addr) (xs:List OI),vs=[.ref p]/\SqL K H p (xs.map ov)/\xs.length<=1000/\∀ H',Same H H'->Q (.bl (xs.all okV)) H'
theorem ze9:aA ["values"] ["values"] (av nI):=by walk_at "sc"
theorem zcp(T:Txt K mg t)(C1:Cal P w K mg base CX0 2 "is_value" ["value"] vc)(F:Fun K "are_values" "are_values" nI f fd):FnOk P w K mg base CX0 3 f fd ["values"] (pj K):=by
 refine F.ok ze9 (λ vs H Q E h=>?_) (λ cdv A outer s H vs Q E hr h=>?_)
 ·obtain ⟨p,xs,rfl,_⟩:=h;rfl
 ·obtain ⟨p,xs,rfl,hS,hl,k⟩:=h;refine ⟨_,ao (ay (aP (qV rfl) (by rfl) T.mH PyProof.Rows.Boot.«all» (aa
   (kf (N:=["value"]) (fr:=[none]) ⟨rfl,rfl,rfl,rfl,rfl,rfl⟩ rfl (bY (pv 0))
    (λ C fp s H=>⟨aR (i:=0) zbY rfl (Or.inl rfl),bz,C1.pe hr ax (aa (pv 0) ad)⟩)) ad))),?_⟩
  refine ⟨_,rfl,p,rfl,⟨_,hS⟩,cB (xs:=xs.map ov) (λ i acc H'=>Same H H'/\acc=((xs.take i).map λ o=>V.bl (okV o))) ⟨Same.refl _,rfl⟩ ?_ ?_ ?_ ?_⟩
  ·rintro i acc H' hi ⟨s1,rfl⟩;refine ⟨s1.seq hS,?_⟩;rw [ag,be];omega
  ·rw [ag];exact Nat.le_of_lt (a9 hl)
  ·rintro i x acc H' hx hlt ⟨s1,rfl⟩;rw [ag] at hlt;have ex:xs[i]?=some xs[i]:=by simp [hlt]
   rw [aL,ex] at hx;cases hx;refine ⟨Wk.set rfl,?_⟩;refine tT ⟨_,rfl,xs[i],rfl,?_⟩;refine cw (by rw [ag];exact hlt) ⟨s1,?_⟩;rw [List.take_add_one,ex,aJ];rfl
  ·rintro acc H' ⟨s1,rfl⟩ q hq;refine ⟨q,xs.map okV,rfl,.of ?_,?_⟩
   ·rw [af,ag,aX,List.map_map];rfl
   ·show Q _ _;rw [List.all_map,Function.id_comp];exact k _ (az s1 hq)
noncomputable def pz(K:W.Frag):Sp:=λ vs H Q _=>∃ (p:Addr) (xs:List OI),vs=[.ref p]/\SqL K H p (xs.map ov)/\xs.length<=16777216/\∀ H',Same H H'->Q (.bl (okB xs)) H'
theorem zfm:aA ["values"] ["values"] (av oh):=by walk_at "sc"
theorem zcM(T:Txt K mg t)(C1:Cal P w K mg base CX0 3 "are_values" ["values"] (pj K))(F:Fun K "is_block" "is_block" oh f fd):FnOk P w K mg base CX0 4 f fd ["values"] (pz K):=by
 refine F.ok zfm (λ vs H Q E h=>?_) (λ cdv A outer s H vs Q E hr h=>?_)
 ·obtain ⟨p,xs,rfl,_⟩:=h;rfl
 ·obtain ⟨p,xs,rfl,hS,hl,k⟩:=h;refine ⟨_,ao (ay (ke (tQ kc kc ae (aP qX (by rfl) T.bE PyProof.Rows.Boot.«len» (aa (pv 0) ad)) (bf T.ze))
   (iw (C1.pe hr ax (aa (pv 0) ad))))),?_⟩
  refine ⟨_,rfl,p,_,rfl,.inl hS,_,_,rfl,rfl,_,rfl,?_⟩;rw [ag];have same:=Same.refl H;by_cases h1:(1:Int)<=(xs.length:Int)
  ·rw [aO h1];refine aw ⟨_,_,rfl,rfl,_,rfl,?_⟩;by_cases h2:(xs.length:Int)<=100
   ·rw [aO h2];refine aw ⟨_,rfl,p,xs,rfl,hS,by omega,λ H' s1=>?_⟩;have e:okB xs=xs.all okV:=by simp [okB,show 1<=xs.length by omega,show xs.length<=100 by omega]
    show Q _ _;rw [← e];exact k _ s1
   ·rw [aM h2];refine ap ?_;have e:okB xs=false:=by simp [okB,show ¬ xs.length<=100 by omega]
    show Q (.bl false) H;rw [← e];exact k _ same
  ·rw [aM h1];refine ap ⟨_,rfl,?_⟩;refine ap ?_;have e:okB xs=false:=by simp [okB,show ¬ 1<=xs.length by omega]
   show Q (.bl false) H;rw [← e];exact k _ same
noncomputable def pk(K:W.Frag)(t:Ad):Sp:=λ vs H Q E=>∃ (p:Addr) (xs:List OI),vs=[.ref p]/\SqL K H p (xs.map ov)/\xs.length<=1000/\
 (okB xs=true->∀ H',Same H H'->Q .non H')/\(okB xs=false->∀ H',Same H H'->E (.ref t.de) none H')
theorem zfc:aA ["values"] ["values"] (av nP):=by walk_at "sc"
theorem zcx(T:Txt K mg t)(C1:Cal P w K mg base CX0 4 "is_block" ["values"] (pz K))(F:Fun K "check_block" "check_block" nP f fd):FnOk P w K mg base (CXr P w) 5 f fd ["values"] (pk K t):=by
 refine F.okX zfc (λ vs H Q E h=>?_) (λ cdv A outer s H vs Q E hr h=>?_)
 ·obtain ⟨p,xs,rfl,_⟩:=h;rfl
 ·obtain ⟨p,xs,rfl,hS,hl,k1,k2⟩:=h;refine ⟨_,ao (aS (ef (c9 (C1.pe hr ax (aa (pv 0) ad)))) (ao (eF eG T.wj rfl (by rfl) T.mi (aa aD ad))) aY),?_⟩;refine ⟨_,rfl,p,xs,rfl,hS,by omega,λ H' s1=>⟨_,rfl,?_⟩⟩;cases e:okB xs with
  | true=>exact ap (k1 e H' s1)
  | false=>exact aw ⟨by show 1<=sizeLine;decide,k2 e H' s1⟩
noncomputable def u5(t:Ad):Sp:=λ vs H Q E=>∃ x:Str,vs=[.str x]/\(x∈kindsS->Q .non H)/\(x∉kindsS->E (.ref t.eB) none H)
theorem zff:aA ["kind"] ["kind"] (av nU):=by walk_at "sc"
theorem zM(x:Str):inV (.str x) kindsV=decide (x∈kindsS):=by
 unfold inV kindsV;rw [List.any_map];have key:∀ l:List Str,l.any ((λ y=>eqV y (.str x)) ∘ V.str)=decide (x∈l):=by
  intro l;induction l with
  | nil=>simp
  | cons a l ih=>
   rw [List.any_cons,ih];by_cases e:x=a
   ·subst e;simp [eqV]
   ·have:(a == x)=false:=by simpa using λ z=>e z.symm
    simp [eqV,this,e]
 exact key _
theorem zcz(T:Txt K mg t)(F:Fun K "check_kind" "check_kind" nU f fd):FnOk P w K mg base (CXr P w) 1 f fd ["kind"] (u5 t):=by
 refine F.okX zff (λ vs H Q E h=>?_) (λ cdv A outer s H vs Q E hr h=>?_)
 ·obtain ⟨p,rfl,_⟩:=h;rfl
 ·obtain ⟨x,rfl,k1,k2⟩:=h;refine ⟨_,ao (aS (aG zdE (pv 0) (di T.hV) (by rfl)) (ao (eF eG T.wl rfl (by rfl) T.ml (aa aD ad))) aY),?_⟩;refine ⟨_,rfl,t.dU,kindsV,rfl,.inr (T.ij _),rfl,rfl,_,rfl,?_⟩;rw [if_pos rfl,zM];by_cases e:x∈kindsS
  ·rw [aO e];exact ap (k1 e)
  ·rw [aM e];exact aw ⟨by show 1<=sizeLine;decide,k2 e⟩
noncomputable def kA:Sp:=λ vs H Q _=>∃ d:Int,vs=[.int d]/\Q (.int (bD d)) H
theorem zfj:aA ["step"] ["step"] (av oa):=by walk_at "sc"
theorem zcI(F:Fun K "folded" "folded" oa f fd):FnOk P w K mg base CX0 1 f fd ["step"] kA:=by
 refine F.ok zfj (λ vs H Q E h=>?_) (λ cdv A outer s H vs Q E hr h=>?_)
 ·obtain ⟨p,rfl,_⟩:=h;rfl
 ·obtain ⟨d,rfl,k⟩:=h;refine ⟨_,ao (ay (dj (aG mR (pv 0) ae (aF _)) (aj d7 ae (pv 0)) (aj bR (aj d7 (dl dm ae) (pv 0)) ae))),?_⟩;refine ⟨_,rfl,_,_,rfl,rfl,_,rfl,?_⟩;by_cases e:0<=d
  ·rw [aO e];refine aw ⟨_,rfl,_,_,rfl,rfl,.inl ⟨by decide,by decide⟩,?_⟩;show Q (.int (2 * d)) H;rw [show 2 * d=bD d by simp [bD,e]];exact k
  ·rw [aM e];refine ap ⟨_,rfl,_,rfl,_,_,rfl,rfl,.inl ⟨by decide,by decide⟩,_,_,rfl,rfl,?_⟩;show Q (.int (-2 * d - 1)) H;rw [show -2 * d - 1=bD d by simp [bD,e]];exact k
noncomputable def Ty.addNum(y:Ty)(i:Int):Ty:={ y with
 least:=some (fw y.least i),greatest:=some (dL y.greatest i),
 widest:=if 0 < y.length/\y.none=false then (if bD (i - y.last.getD 0) > y.widest then bD (i - y.last.getD 0) else y.widest) else y.widest }
theorem zgr(h:0 < xs.length)(hn:(aq xs).none=false):∃ j,(aq xs).last=some j:=by
 have e:=zgq (xs:=xs) (n:=xs.length - 1) (by omega);rw [show xs.length - 1+1=xs.length by omega,aX] at e;cases q:at' xs (xs.length - 1) with
 | some j=>exact ⟨j,by rw [e,q]⟩
 | none=>
  have m : .none∈xs:=by
   rw [← q];have:xs.length - 1 < xs.length:=by omega
   unfold at';simp [List.getD,this]
  have:=(vS xs.length (Nat.le_refl _)).mpr (by rwa [aX]);rw [aX,hn] at this;cases this
noncomputable def eC(d:Addr)(y:Ty):List (Str × V):=[("length", .int y.length),("last", ov y.last),("runs", .int y.runs),("book", .ref d),("has_none", .bl y.none),("least", ov y.least),("greatest", ov y.greatest),("widest", .int y.widest)]
noncomputable def bk(l:List OI):List (Key × V):=l.map λ o=>(Sum.inl o,.bl true)
structure dS (C:Addr) (H:Hp) (p d:Addr) (y:Ty):Prop where
 ob:∃ dx,H p=some (.ins C dx (eC d y))
 dc:H d=some (.dK (bk y.book))
theorem zdJ(o:OI):ov o=kV (Sum.inl o):=by cases o <;> rfl
theorem xW(l:List OI)(v:OI):bj (bk l) (Sum.inl v) (.bl true)=bk (if v∈l then l else l++[v]):=by
 unfold bj bk;by_cases h:v∈l
 ·rw [if_pos h,if_pos]
  ·rw [List.map_map];apply List.map_congr_left;intro o _;dsimp only [Function.comp]
   split <;> rfl
  ·rw [List.any_map,List.any_eq_true];exact ⟨v,h,by simp⟩
 ·rw [if_neg h,if_neg]
  ·rw [aJ];rfl
  ·rw [List.any_map,List.any_eq_true];rintro ⟨o,ho,e⟩;have e':(Sum.inl o:Key)=Sum.inl v:=of_decide_eq_true e;exact h (Sum.inl.inj e' ▸ ho)
noncomputable def px(C:Addr):Sp:=λ vs H Q _=>∃ (p dx:Addr),vs=[.ref p]/\H p=some (.ins C dx [])/\∀ (d:Addr) (H':Hp),H d=none->dS C H' p d Ty.zero->(∀ b,b≠p->b≠d->H' b=H b)->Q .non H'
theorem zfl:aA ["self"] ["self"] (av nD):=by walk_at "sc"
theorem zcL(T:Txt K mg t)(F:Fun K "__init__" "Tally.__init__" nD f fd):FnOk P w K mg base CX0 1 f fd ["self"] (px t.au):=by
 refine F.ok zfl (λ vs H Q E h=>?_) (λ cdv A outer s H vs Q E hr h=>?_)
 ·obtain ⟨p,dx,rfl,_⟩:=h;rfl
 ·obtain ⟨p,dx,rfl,hp,k⟩:=h;refine ⟨_,ak (c6 (pv 0) ae rfl) (ak (c6 (pv 0) bN rfl) (ak (c6 (pv 0) ae rfl) (ak (c6 (pv 0) tS rfl) (ak (c6 (pv 0) eV rfl)
   (ak (c6 (pv 0) bN rfl) (ak (c6 (pv 0) bN rfl) (ao (c6 (pv 0) ae rfl)))))))),?_⟩
  refine ⟨_,rfl,p,t.au,dx,_,rfl,hp,T.aQ,T.eN,by show 0 < 1000;decide,?_⟩;refine ⟨_,rfl,p,t.au,dx,_,rfl,af,T.aQ,T.iM,by show 1 < 1000;decide,?_⟩;refine ⟨_,rfl,p,t.au,dx,_,rfl,af,T.aQ,T.jJ,by show 2 < 1000;decide,?_⟩;intro d hd;have npd:p≠d:=λ z=>by rw [z] at hd;rw [af] at hd;cases hd
  refine ⟨_,rfl,p,t.au,dx,_,rfl,(by rw [ai npd];exact af),T.aQ,T.lI,by show 3 < 1000;decide,?_⟩;refine ⟨_,rfl,p,t.au,dx,_,rfl,af,T.aQ,T.jI,by show 4 < 1000;decide,?_⟩;refine ⟨_,rfl,p,t.au,dx,_,rfl,af,T.aQ,T.gk,by show 5 < 1000;decide,?_⟩;refine ⟨_,rfl,p,t.au,dx,_,rfl,af,T.aQ,T.gU,by show 6 < 1000;decide,?_⟩;refine ⟨_,rfl,p,t.au,dx,_,rfl,af,T.aQ,T.jK,by show 7 < 1000;decide,?_⟩;refine k d _ ?_ ⟨⟨dx,af⟩,?_⟩ λ b h1 h2=>?_
  ·rw [ai npd.symm,ai npd.symm,ai npd.symm] at hd;exact hd
  ·rw [ai npd.symm,ai npd.symm,ai npd.symm,ai npd.symm,ai npd.symm,af];rfl
  ·rw [ai h1,ai h1,ai h1,ai h1,ai h1,ai h2,ai h1,ai h1,ai h1]
noncomputable def pi(C:Addr):Sp:=λ vs H Q _=>∃ (p d dx:Addr) (y:Ty) (i:Int),vs=[.ref p,.int i]/\H p=some (.ins C dx (eC d y))/\(0 < y.length->y.none=false->∃ j,y.last=some j)/\
 ∀ H':Hp,H' p=some (.ins C dx (eC d (y.addNum i)))->(∀ b,b≠p->H' b=H b)->Q .non H'
noncomputable def ts3(K:W.Frag):TS:=js (vG (jt (tOp (rI0 λ i j=>.bl (decide (j < i))) (fN K (b8 0) "length") (tC (.int 0)))) (vL (tB (fN K (b8 0) "has_none"))))
 (jl K (b8 0) (tCB (λ xs H Q=>∃ i j,xs=[.int i,.int j]/\Q (.int (if j > i then j else i)) H) (gG (fN K (b8 0) "widest") (gG (pN kA [] E0 (gG (tOp (rI0 λ i j=>.int (i - j)) (b8 1) (fN K (b8 0) "last")) fc)) fc))) "widest") pP
noncomputable def ts2(K:W.Frag):TS:=eh (js (tOr (jt (tOp (λ x y H Q=>y = .non/\Q (.bl (decide (x = .non))) H) (fN K (b8 0) "greatest") (tC .non))) (jt (tOp (rI0 λ i j=>.bl (decide (j < i))) (b8 1) (fN K (b8 0) "greatest"))))
 (jl K (b8 0) (b8 1) "greatest") pP) (ts3 K)
noncomputable def Ty.w3(y:Ty)(i:Int):Ty:={ y with widest:=if 0 < y.length/\y.none=false then (if bD (i - y.last.getD 0) > y.widest then bD (i - y.last.getD 0) else y.widest) else y.widest }
theorem lK{d:Addr}(T:Txt K mg t)(hlast:0 < y.length->y.none=false->∃ j,y.last=some j)(h2:H2 p=some (.ins t.au dx (eC d y)))(hb:∀ b,b≠p->H2 b=H b)(k:∀ H':Hp,H' p=some (.ins t.au dx (eC d (Ty.w3 y i)))->(∀ b,b≠p->H' b=H b)->Q .non H'):
  ts3 K { nx:=λ _ H'=>Q .non H',rt:=Q } [some (.ref p),some (.int i)] H2:=by
 have same:y={ y with widest:=y.widest }:=by cases y;rfl
 refine ⟨_,rfl,p,t.au,dx,_,_,rfl,h2,T.aQ,T.eN,rfl,_,_,rfl,rfl,_,rfl,?_⟩;by_cases hl:0 < y.length
 ·rw [aO (show (0:Int) < (y.length:Int) by omega)];refine aw ⟨_,rfl,p,t.au,dx,_,_,rfl,h2,T.aQ,T.jI,rfl,_,rfl,?_⟩;cases en:y.none with
  | true=>
   refine ap (k H2 ?_ hb);have:Ty.w3 y i=y:=by
    cases y
    simp_all [Ty.w3]
   rw [this];exact h2
  | false=>
   refine aw ?_;obtain ⟨j,hj⟩:=hlast hl en;refine ⟨_,rfl,p,t.au,dx,_,_,rfl,h2,T.aQ,T.jK,rfl,_,rfl,_,rfl,p,t.au,dx,_,_,rfl,h2,T.aQ,T.iM,rfl,_,_,rfl,(by rw [hj];rfl),i - j,rfl,_,_,rfl,_,rfl,p,t.au,dx,_,rfl,h2,T.aQ,T.jK,by show 8 < 1000;decide,?_⟩;refine k _ ?_ λ b hbp=>by rw [ai hbp];exact hb b hbp
   have ew:Ty.w3 y i={ y with widest:=if bD (i - j) > y.widest then bD (i - j) else y.widest }:=by simp [Ty.w3,en,hl,hj]
   rw [af,ew];rfl
 ·rw [aM (show ¬ (0:Int) < (y.length:Int) by omega)];refine ap (ap (k H2 ?_ hb));have:Ty.w3 y i=y:=by
   cases y
   simp_all [Ty.w3]
  rw [this];exact h2
theorem lJ{d:Addr}{y1:Ty}(T:Txt K mg t)(hlast:0 < y.length->y.none=false->∃ j,y.last=some j)(e1:y1.length=y.length)(e2:y1.none=y.none)(e3:y1.last=y.last)(e4:y1.widest=y.widest)(e5:y1.greatest=y.greatest)(h1:H1 p=some (.ins t.au dx (eC d y1)))(hb:∀ b,b≠p->H1 b=H b)(k:∀ H':Hp,H' p=some (.ins t.au dx (eC d (Ty.w3 { y1 with greatest:=some (dL y.greatest i) } i)))->(∀ b,b≠p->H' b=H b)->Q .non H'):
  ts2 K { nx:=λ _ H'=>Q .non H',rt:=Q } [some (.ref p),some (.int i)] H1:=by
 refine ⟨_,rfl,p,t.au,dx,_,_,rfl,h1,T.aQ,T.gU,rfl,rfl,_,rfl,?_⟩;cases el:y1.greatest with
 | none=>
  refine aw (aw ⟨_,rfl,_,rfl,p,t.au,dx,_,rfl,h1,T.aQ,T.gU,by show 8 < 1000;decide,?_⟩);refine lK (y:={ y1 with greatest:=some i }) (H:=H) T (λ a b=>by obtain ⟨j,q⟩:=hlast (e1 ▸ a) (e2 ▸ b);exact ⟨j,e3.trans q⟩) af (λ b hb'=>by rw [ai hb'];exact hb b hb') ?_;have:dL y.greatest i=i:=by rw [← e5,el];rfl
  rw [this] at k;exact k
 | some m=>
  refine ap ⟨_,rfl,_,rfl,p,t.au,dx,_,_,rfl,h1,T.aQ,T.gU,rfl,_,_,rfl,(by rw [el];rfl),_,rfl,?_⟩;by_cases hm:m < i
  ·rw [aO hm];refine aw ⟨_,rfl,_,rfl,p,t.au,dx,_,rfl,h1,T.aQ,T.gU,by show 8 < 1000;decide,?_⟩;refine lK (y:={ y1 with greatest:=some i }) (H:=H) T (λ a b=>by obtain ⟨j,q⟩:=hlast (e1 ▸ a) (e2 ▸ b);exact ⟨j,e3.trans q⟩) af (λ b hb'=>by rw [ai hb'];exact hb b hb') ?_;have:dL y.greatest i=i:=by rw [← e5,el];simp [dL,hm]
   rw [this] at k;exact k
  ·rw [aM hm];refine ap ?_;refine lK (y:=y1) (H:=H) T (λ a b=>by obtain ⟨j,q⟩:=hlast (e1 ▸ a) (e2 ▸ b);exact ⟨j,e3.trans q⟩) h1 hb ?_;have:({ y1 with greatest:=some (dL y.greatest i) }:Ty)=y1:=by
    have:dL y.greatest i=m:=by rw [← e5,el];simp [dL,hm]
    rw [this,← el]
   rw [this] at k;exact k
theorem ze7:aA ["self", "number"] ["self", "number"] (av nA):=by walk_at "sc"
theorem zcm(T:Txt K mg t)(C1:Cal P w K mg base CX0 1 "folded" ["step"] kA)(F:Fun K "add_number" "Tally.add_number" nA f fd):FnOk P w K mg base CX0 3 f fd ["self", "number"] (pi t.au):=by
 refine F.ok ze7 (λ vs H Q E h=>?_) (λ cdv A outer s H vs Q E hr h=>?_)
 ·obtain ⟨p,d,dx,y,i,rfl,_⟩:=h;rfl
 ·obtain ⟨p,d,dx,y,i,rfl,hp,hlast,k⟩:=h;refine ⟨_,ak (aS (eZ (aG d5 (cn (pv 0) rfl) bN (aF _)) (fL (aG kd (pv 1) (cn (pv 0) rfl) (aF _)))).pt (ao (c6 (pv 0) (pv 1) rfl)) aY)
   (ak (aS (eZ (aG d5 (cn (pv 0) rfl) bN (aF _)) (fL (aG dh (pv 1) (cn (pv 0) rfl) (aF _)))).pt (ao (c6 (pv 0) (pv 1) rfl)) aY)
   (ao (aS (eY (aG dh (cn (pv 0) rfl) ae (aF _)) (gb (ef (c9 (cn (pv 0) rfl))))).pt
    (ao (c6 (pv 0) (aP (qZ rfl) (by rfl) T.i5 PyProof.Rows.Boot.«max» (aa (cn (pv 0) rfl) (aa (C1.pe hr ax (aa (aj bR (pv 1) (cn (pv 0) rfl)) ad)) ad))) rfl)) aY))),?_⟩
  -- if self.least is None or number < self.least: self.least=number
  refine ⟨_,rfl,p,t.au,dx,_,_,rfl,hp,T.aQ,T.gk,rfl,rfl,_,rfl,?_⟩;cases el:y.least with
  | none=>
   refine aw (aw ⟨_,rfl,_,rfl,p,t.au,dx,_,rfl,hp,T.aQ,T.gk,by show 8 < 1000;decide,?_⟩);exact lJ T hlast (y1:={ y with least:=some i }) rfl rfl rfl rfl rfl af (λ b hb=>ai hb) λ H' h1 h2=>k H' (by rw [h1];simp [Ty.addNum,Ty.w3,el,fw]) h2
  | some m=>
   refine ap ⟨_,rfl,_,rfl,p,t.au,dx,_,_,rfl,hp,T.aQ,T.gk,rfl,_,_,rfl,(by rw [el];rfl),_,rfl,?_⟩;by_cases hm:i < m
   ·rw [aO hm];refine aw ⟨_,rfl,_,rfl,p,t.au,dx,_,rfl,hp,T.aQ,T.gk,by show 8 < 1000;decide,?_⟩;exact lJ T hlast (y1:={ y with least:=some i }) rfl rfl rfl rfl rfl af (λ b hb=>ai hb) λ H' h1 h2=>k H' (by rw [h1];simp [Ty.addNum,Ty.w3,el,fw,hm]) h2
   ·rw [aM hm];refine ap ?_;exact lJ T hlast (y1:=y) rfl rfl rfl rfl rfl hp (λ b _=>rfl) λ H' h1 h2=>k H' (by rw [h1];simp [Ty.addNum,Ty.w3,el,fw,hm]) h2
noncomputable def gu(y:Ty):Int:=match y.least,y.greatest with | some a,some b=>b - a+1 | _,_=>0
noncomputable def cY(y:Ty):List OI:=[some (24 * (y.length:Int)),some (8+(24+8) * (y.runs:Int)),(if 64 < y.book.length then .none else some (6+24 * (y.book.length:Int)+(aI (y.book.length - 1):Int) * y.length)),
 some (24+5+(aI (gu y).toNat:Int) * y.length),(if y.none=true then .none else some (24+5+(aI y.widest.toNat:Int) * ((y.length:Int) - 1)))]
noncomputable def gh:OI->OI
 | .none=>.none
 | .some b=>some (3+8+b)
noncomputable def bn(y:Ty):List OI:=(cY y).map gh
structure YOk (y:Ty):Prop where
 pos:0 < y.book.length
 bl:y.book.length<=1000
 len:y.length<=1000
 hi:(y.least = .none/\y.greatest = .none)\/∃ a b,y.least=some a/\y.greatest=some b/\a<=b
 wid:0<=y.widest
theorem i4(h:l≠[]):∃ m,cb l=some m:=by
 cases l with
 | nil=>exact absurd rfl h
 | cons x r=>exact ⟨_,rfl⟩
noncomputable def tsA(K:W.Frag)(C:Addr):TS:=eh (uH (fN K (b8 0) "book") (b8 1) (tC (.bl true))) (eh (js (jt (tOp (λ x y H Q=>y = .non/\Q (.bl (decide (x = .non))) H) (b8 1) (tC .non)))
 (jl K (b8 0) (tC (.bl true)) "has_none") (vJ (pO C "add_number" (pi C) [] E0 (b8 0) (gG (b8 1) fc)))) (eh (jl K (b8 0) (b8 1) "last") (uI K (b8 0) (tC (.int 1)) ug "length")))
theorem qt{d:Addr}{r:Nat}(T:Txt K mg t)(hlast:0 < y.length->y.none=false->∃ j,y.last=some j)(hbl:y.book.length<=1000)(h1:H1 p=some (.ins t.au dx (eC d { y with runs:=r })))(hd:H1 d=some (.dK (bk y.book)))(hb:∀ b,b≠p->b≠d->H1 b=H b)(k:∀ H':Hp,H' p=some (.ins t.au dx (eC d { (y.add v) with runs:=r }))->H' d=some (.dK (bk (y.add v).book))->(∀ b,b≠p->b≠d->H' b=H b)->Q .non H'):
  tsA K t.au { nx:=λ _ H'=>Q .non H',rt:=Q } [some (.ref p),some (ov v)] H1:=by
 have npd:p≠d:=dD h1 hd (by intro z;cases z);have hl1:(bk y.book).length < sizeLine:=by rw [show (bk y.book).length=y.book.length by simp [bk]];exact a9 hbl
 refine ⟨_,rfl,p,t.au,dx,_,_,rfl,h1,T.aQ,T.lI,rfl,_,rfl,d,_,rfl,(by rw [zdJ];exact DPut.k (k:=Sum.inl v) hd hl1),?_⟩;have h2:(upd H1 d (.dK (bj (bk y.book) (Sum.inl v) (.bl true)))) p=some (.ins t.au dx (eC d { y with runs:=r })):=by rw [ai npd];exact h1
 have hd2:(upd H1 d (.dK (bj (bk y.book) (Sum.inl v) (.bl true)))) d=some (.dK (bk (y.add v).book)):=by rw [af,xW];rfl
 have hb2:∀ b,b≠p->b≠d->(upd H1 d (.dK (bj (bk y.book) (Sum.inl v) (.bl true)))) b=H b:=λ b e1 e2=>by rw [ai e2];exact hb b e1 e2
 generalize (upd H1 d (.dK (bj (bk y.book) (Sum.inl v) (.bl true))))=H2 at h2 hd2 hb2 ⊢;refine ⟨_,rfl,rfl,_,rfl,?_⟩;cases v with
 | none=>
  refine aw ⟨_,rfl,p,t.au,dx,_,rfl,h2,T.aQ,T.jI,by show 8 < 1000;decide,?_⟩;refine ⟨_,rfl,_,rfl,p,t.au,dx,_,rfl,af,T.aQ,T.iM,by show 8 < 1000;decide,?_⟩;refine ⟨_,rfl,p,t.au,dx,_,_,rfl,af,T.aQ,T.eN,rfl,_,_,rfl,rfl,dx,_,af,by show 8 < 1000;decide,?_⟩;refine k _ af ?_ λ b e1 e2=>?_
  ·rw [ai npd.symm,ai npd.symm,ai npd.symm];exact hd2
  ·rw [ai e1,ai e1,ai e1];exact hb2 b e1 e2
 | some i=>
  refine ap ⟨_,rfl,p,dx,_,rfl,h2,rfl,_,rfl,p,d,dx,{ y with runs:=r },i,rfl,h2,hlast,λ H3 h3 hb3=>?_⟩;have hd3:H3 d=some (.dK (bk (y.add (some i)).book)):=by rw [hb3 d npd.symm];exact hd2
  refine ⟨_,rfl,_,rfl,p,t.au,dx,_,rfl,h3,T.aQ,T.iM,by show 8 < 1000;decide,?_⟩;refine ⟨_,rfl,p,t.au,dx,_,_,rfl,af,T.aQ,T.eN,rfl,_,_,rfl,rfl,dx,_,af,by show 8 < 1000;decide,?_⟩;refine k _ ?_ ?_ λ b e1 e2=>?_
  ·rw [af];have e:({ y with runs:=r }:Ty).addNum i={ y with runs:=r,least:=some (fw y.least i),greatest:=some (dL y.greatest i),widest:=(y.add (some i)).widest }:=rfl;rw [e];simp [Ty.add];rfl
  ·rw [ai npd.symm,ai npd.symm];exact hd3
  ·rw [ai e1,ai e1,hb3 b e1];exact hb2 b e1 e2
noncomputable def ph(C:Addr):Sp:=λ vs H Q _=>∃ (p d:Addr) (xs:List OI) (v:OI),vs=[.ref p,ov v]/\dS C H p d (aq xs)/\xs.length<=1000/\
 ∀ H':Hp,dS C H' p d (aq (xs++[v]))->(∀ b,b≠p->b≠d->H' b=H b)->Q .non H'
theorem ze6:aA ["self", "value"] ["self", "value"] (av ny):=by walk_at "sc"
theorem zgp(xs:List OI):(aq xs).book.length<=xs.length:=by
 have:=pT xs.length (Nat.le_refl _);rw [aX] at this;rw [this];exact me _ _
theorem zcl(T:Txt K mg t)(C1:bB P w K mg base CX0 3 t.au "add_number" ["self", "number"] (pi t.au))(F:Fun K "add" "Tally.add" ny f fd):FnOk P w K mg base CX0 4 f fd ["self", "value"] (ph t.au):=by
 obtain ⟨f1,fd1,G1,m1,b1⟩:=C1;refine F.ok ze6 (λ vs H Q E h=>?_) (λ cdv A outer s H vs Q E hr h=>?_)
 ·obtain ⟨p,d,y,i,rfl,_⟩:=h;rfl
 ·obtain ⟨p,d,xs,v,rfl,⟨⟨dx,hp⟩,hd⟩,hl,k⟩:=h;have hu:=fu hr;have hll:=vR xs;have hlast:0 < (aq xs).length->(aq xs).none=false->∃ j,(aq xs).last=some j:=λ a b=>zgr (by omega) b;have hbl:=Nat.le_trans (zgp xs) hl;rw [vT] at k;refine ⟨_,ak (aS (eZ (aG bM (cn (pv 0) rfl) ae (aF _)) (fL (aG fD (pv 1) (cn (pv 0) rfl) (aF _)))).pt (ao (ub (pv 0) ae su)) aY)
   (ak (zee hu (cn (pv 0) rfl) (pv 1) eV rfl)
   (ak (aS (aG d5 (pv 1) bN (aF _)) (ao (c6 (pv 0) eV rfl)) (ao (bV (bU (pv 0) T.aQ m1 G1 hr b1 .nil ax (aa (pv 1) ad)))))
   (ak (c6 (pv 0) (pv 1) rfl) (ao (ub (pv 0) ae su))))),?_⟩
  refine ⟨_,rfl,p,t.au,dx,_,_,rfl,hp,T.aQ,T.eN,rfl,rfl,_,rfl,?_⟩
  -- one run more
  have more:(aq xs).length=0\/v≠(aq xs).last->∀ H1,H1 p=some (.ins t.au dx (eC d { (aq xs) with runs:=(aq xs).runs+1 }))->(∀ b,b≠p->H1 b=H b)->
    tsA K t.au { nx:=λ _ H'=>Q .non H',rt:=Q } [some (.ref p),some (ov v)] H1:=λ c H1 h1 hb1=>by
   have npd:p≠d:=dD hp hd (by intro z;cases z);refine qt T hlast hbl h1 (by rw [hb1 d npd.symm];exact hd) (λ b e1 _=>hb1 b e1) λ H' g1 g2 g3=>k H' ⟨⟨dx,?_⟩,g2⟩ g3;rw [g1];have:((aq xs).add v).runs=(aq xs).runs+1:=by simp only [Ty.add];rw [if_pos c]
   rw [← this]
  by_cases c0:(aq xs).length=0
  ·rw [aO (show V.int ((aq xs).length:Int)=V.int 0 by rw [c0];rfl)];refine aw (aw ⟨_,rfl,p,t.au,dx,_,_,rfl,hp,T.aQ,T.jJ,rfl,_,_,rfl,rfl,dx,_,hp,by show 8 < 1000;decide,?_⟩);exact more (.inl c0) _ af λ b hb=>ai hb
  ·rw [aM (show ¬ V.int ((aq xs).length:Int)=V.int 0 by intro z;injection z with z;omega)];refine ap ⟨_,rfl,_,rfl,p,t.au,dx,_,_,rfl,hp,T.aQ,T.iM,rfl,f9 _ _,_,rfl,?_⟩;rw [tM];by_cases c1:v=(aq xs).last
   ·rw [aO c1];refine ap ?_;refine qt (r:=(aq xs).runs) T hlast hbl hp hd (λ b _ _=>rfl) λ H' g1 g2 g3=>k H' ⟨⟨dx,?_⟩,g2⟩ g3;rw [g1];have:((aq xs).add v).runs=(aq xs).runs:=by
     simp only [Ty.add];rw [if_neg (λ z=>z.elim c0 λ z=>z c1)]
    rw [← this]
   ·rw [aM c1];refine aw ⟨_,rfl,p,t.au,dx,_,_,rfl,hp,T.aQ,T.jJ,rfl,_,_,rfl,rfl,dx,_,hp,by show 8 < 1000;decide,?_⟩;exact more (.inr c1) _ af λ b hb=>ai hb
noncomputable def iA(C:Addr)(g:Ty->OI):Sp:=λ vs H Q _=>∃ (p d:Addr) (y:Ty),vs=[.ref p]/\dS C H p d y/\YOk y/\Q (ov (g y)) H
theorem sc_book_room:aA ["self", "entries"] ["self"] (av nC):=by walk_at "sc"
theorem mG(h:n<=1000):CMul i (n:Int):=.inr ⟨by omega,by omega⟩
theorem zcw(T:Txt K mg t)(C1:Cal P w K mg base CX0 1 "needed" ["number"] gE)(F:Fun K "book_room" "Tally.book_room" nC f fd):
  FnOk P w K mg base CX0 3 f fd ["self"] (iA t.au λ y=>if 64 < y.book.length then .none else some (6+24 * (y.book.length:Int)+(aI (y.book.length - 1):Int) * y.length)):=by
 refine F.ok sc_book_room (λ vs H Q E h=>?_) (λ cdv A outer s H vs Q E hr h=>?_)
 ·obtain ⟨p,d,y,rfl,_⟩:=h;rfl
 ·obtain ⟨p,d,y,rfl,⟨⟨dx,hp⟩,hd⟩,Y,k⟩:=h;dsimp only at k;refine ⟨_,ak (aE (i:=1) sc_book_room.nd rfl (Or.inl rfl) (aP jR (by rfl) T.bE PyProof.Rows.Boot.«len» (aa (cn (pv 0) rfl) ad)))
   (ak (aS (aG dh (pv 1) (bf T.zf) (aF _)) (ao (ay bN)) aY)
   (ao (ay (aj a8 (aj a8 (bf T.mn) (aj d7 (bf T.fq) (pv 1))) (aj d7 (C1.pe hr ax (aa (aj bR (pv 1) ae) ad)) (cn (pv 0) rfl)))))),?_⟩
  have el:(bk y.book).length=y.book.length:=by simp [bk]
  refine ⟨_,rfl,p,t.au,dx,_,_,rfl,hp,T.aQ,T.lI,rfl,d,_,rfl,hd,?_⟩;rw [el];refine ⟨_,rfl,_,_,rfl,rfl,_,rfl,?_⟩;by_cases c:64 < y.book.length
  ·rw [aO (show (64:Int) < (y.book.length:Int) by omega)];refine aw ?_;rw [if_pos c] at k;exact k
  ·rw [aM (show ¬ (64:Int) < (y.book.length:Int) by omega)];rw [if_neg c] at k;refine ap ⟨_,rfl,_,_,rfl,rfl,.inl ⟨by decide,by decide⟩,_,_,rfl,rfl,_,rfl,_,_,rfl,rfl,_,rfl,?_,?_⟩
   ·have:=Y.pos;omega
   refine ⟨_,rfl,p,t.au,dx,_,_,rfl,hp,T.aQ,T.eN,rfl,_,_,rfl,rfl,mG Y.len,_,_,rfl,rfl,?_⟩;have e:((y.book.length:Int) - 1).toNat=y.book.length - 1:=by omega
   show Q _ _;rw [e];exact k
theorem sc_base_room:aA ["self", "highest"] ["self"] (av nB):=by walk_at "sc"
theorem zcr(T:Txt K mg t)(C1:Cal P w K mg base CX0 1 "needed" ["number"] gE)(F:Fun K "base_room" "Tally.base_room" nB f fd):
  FnOk P w K mg base CX0 3 f fd ["self"] (iA t.au λ y=>some (24+5+(aI (gu y).toNat:Int) * y.length)):=by
 refine F.ok sc_base_room (λ vs H Q E h=>?_) (λ cdv A outer s H vs Q E hr h=>?_)
 ·obtain ⟨p,d,y,rfl,_⟩:=h;rfl
 ·obtain ⟨p,d,y,rfl,⟨⟨dx,hp⟩,hd⟩,Y,k⟩:=h;dsimp only at k;refine ⟨_,ak (aE (i:=1) sc_base_room.nd rfl (Or.inl rfl) (dj (aG d5 (cn (pv 0) rfl) bN (aF _)) ae (aj a8 (aj bR (cn (pv 0) rfl) (cn (pv 0) rfl)) ae)))
   (ao (ay (aj a8 (aj a8 (bf T.fq) (bf T.iV)) (aj d7 (C1.pe hr ax (aa (pv 1) ad)) (cn (pv 0) rfl))))),?_⟩
  refine ⟨_,rfl,p,t.au,dx,_,_,rfl,hp,T.aQ,T.gk,rfl,rfl,_,rfl,?_⟩;rcases Y.hi with ⟨c1,c2⟩ | ⟨a,b,c1,c2,hab⟩
  ·rw [c1];refine aw ?_;have e:gu y=0:=by simp [gu,c1]
   rw [e] at k;refine ⟨_,_,rfl,rfl,_,rfl,_,rfl,by decide,_,rfl,p,t.au,dx,_,_,rfl,hp,T.aQ,T.eN,rfl,_,_,rfl,rfl,mG Y.len,_,_,rfl,rfl,?_⟩;exact k
  ·rw [c1];refine ap ?_;have e:gu y=b - a+1:=by simp [gu,c1,c2]
   rw [e] at k;refine ⟨_,rfl,p,t.au,dx,_,_,rfl,hp,T.aQ,T.gU,rfl,_,rfl,p,t.au,dx,_,_,rfl,hp,T.aQ,T.gk,rfl,_,_,(by rw [c2];rfl),(by rw [c1];rfl),_,_,rfl,rfl,?_⟩;refine ⟨_,_,rfl,rfl,_,rfl,_,rfl,by omega,_,rfl,p,t.au,dx,_,_,rfl,hp,T.aQ,T.eN,rfl,_,_,rfl,rfl,mG Y.len,_,_,rfl,rfl,?_⟩;exact k
theorem zfx:aA ["self"] ["self"] (av nG):=by walk_at "sc"
theorem zdo(T:Txt K mg t)(C1:Cal P w K mg base CX0 1 "needed" ["number"] gE)(F:Fun K "steps_room" "Tally.steps_room" nG f fd):
  FnOk P w K mg base CX0 3 f fd ["self"] (iA t.au λ y=>if y.none=true then .none else some (24+5+(aI y.widest.toNat:Int) * ((y.length:Int) - 1))):=by
 refine F.ok zfx (λ vs H Q E h=>?_) (λ cdv A outer s H vs Q E hr h=>?_)
 ·obtain ⟨p,d,y,rfl,_⟩:=h;rfl
 ·obtain ⟨p,d,y,rfl,⟨⟨dx,hp⟩,hd⟩,Y,k⟩:=h;dsimp only at k;refine ⟨_,ak (aS (c9 (cn (pv 0) rfl)) (ao (ay bN)) aY)
   (ao (ay (aj a8 (aj a8 (bf T.fq) (bf T.iV)) (aj d7 (C1.pe hr ax (aa (cn (pv 0) rfl) ad)) (aj bR (cn (pv 0) rfl) ae))))),?_⟩
  refine ⟨_,rfl,p,t.au,dx,_,_,rfl,hp,T.aQ,T.jI,rfl,_,rfl,?_⟩;cases c:y.none with
  | true=>
   rw [if_pos c] at k;exact aw k
  | false=>
   rw [if_neg (by rw [c];exact bi)] at k;have yl:=Y.len;refine ap ⟨_,_,rfl,rfl,_,rfl,p,t.au,dx,_,_,rfl,hp,T.aQ,T.jK,rfl,_,rfl,Y.wid,_,rfl,p,t.au,dx,_,_,rfl,hp,T.aQ,T.eN,rfl,_,_,rfl,rfl,_,_,rfl,rfl,.inr ⟨by omega,by omega⟩,_,_,rfl,rfl,?_⟩;exact k
noncomputable def kE(C:Addr):Sp:=λ vs H Q _=>∃ (p d:Addr) (y:Ty),vs=[.ref p]/\dS C H p d y/\YOk y/\∀ (l:Addr) (H':Hp),Same H H'->H l=none->H' l=some (.lst ((bn y).map ov))->Q (.ref l) H'
theorem sc_rooms:aA ["self", "bodies"] ["self"] (av nF):=by walk_at "sc"
theorem zbB:(["body"]:List Str).Nodup:=by decide +kernel
theorem zdi(T:Txt K mg t)(C1:bB P w K mg base CX0 3 t.au "book_room" ["self"] (iA t.au λ y=>if 64 < y.book.length then .none else some (6+24 * (y.book.length:Int)+(aI (y.book.length - 1):Int) * y.length)))(C2:bB P w K mg base CX0 3 t.au "base_room" ["self"] (iA t.au λ y=>some (24+5+(aI (gu y).toNat:Int) * y.length)))(C3:bB P w K mg base CX0 3 t.au "steps_room" ["self"] (iA t.au λ y=>if y.none=true then .none else some (24+5+(aI y.widest.toNat:Int) * ((y.length:Int) - 1))))(F:Fun K "rooms" "Tally.rooms" nF f fd):FnOk P w K mg base CX0 4 f fd ["self"] (kE t.au):=by
 obtain ⟨f1,fd1,G1,m1,b1⟩:=C1;obtain ⟨f2,fd2,G2,m2,b2⟩:=C2;obtain ⟨f3,fd3,G3,m3,b3⟩:=C3;refine F.ok sc_rooms (λ vs H Q E h=>?_) (λ cdv A outer s H vs Q E hr h=>?_)
 ·obtain ⟨p,d,y,rfl,_⟩:=h;rfl
 ·obtain ⟨p,d,y,rfl,TA,Y,k⟩:=h;obtain ⟨⟨dx,hp⟩,hd⟩:=id TA;refine ⟨_,ak (aE (i:=1) sc_rooms.nd rfl (Or.inl rfl) (bS (aa (aj d7 (bf T.fq) (cn (pv 0) rfl)) (aa (aj a8 (bf T.mr) (aj d7 (aj a8 (bf T.fq) (bf T.ms)) (cn (pv 0) rfl)))
    (aa (fF (pv 0) T.aQ m1 G1 hr b1 .nil ax) (aa (fF (pv 0) T.aQ m2 G2 hr b2 .nil ax) (aa (fF (pv 0) T.aQ m3 G3 hr b3 .nil ax) ad)))))))
   (ao (ay (kf (N:=["body"]) (fr:=[none]) ⟨rfl,rfl,rfl,rfl,rfl,rfl⟩ rfl (bY (pv 1))
    (λ C fp s H=>⟨aR (i:=0) zbB rfl (Or.inl rfl),bz,dj (aG d5 (pv 0) bN (aF _)) bN (aj a8 (aj a8 (bf T.mo) (bf T.mq)) (pv 0))⟩)))),?_⟩
  refine ⟨_,rfl,p,t.au,dx,_,_,rfl,hp,T.aQ,T.eN,rfl,_,_,rfl,rfl,.inl ⟨by decide,by decide⟩,?_⟩;refine ⟨_,_,rfl,rfl,_,rfl,p,t.au,dx,_,_,rfl,hp,T.aQ,T.jJ,rfl,_,_,rfl,rfl,.inl ⟨by decide,by decide⟩,_,_,rfl,rfl,?_⟩;refine ⟨_,rfl,p,dx,_,rfl,hp,rfl,p,d,y,rfl,TA,Y,?_⟩;refine ⟨_,rfl,p,dx,_,rfl,hp,rfl,p,d,y,rfl,TA,Y,?_⟩;refine ⟨_,rfl,p,dx,_,rfl,hp,rfl,p,d,y,rfl,TA,Y,?_⟩;refine ⟨by show 5<=sizeLine;decide,λ l hl=>?_⟩;have hb:(upd H l (.lst ((cY y).map ov))) l=some (.lst ((cY y).map ov)):=af;have s0:Same H (upd H l (.lst ((cY y).map ov))):=az (Same.refl H) hl;refine ⟨_,rfl,l,rfl,⟨_,.of hb⟩,cB (xs:=(cY y).map ov) (λ i acc H'=>Same (upd H l (.lst ((cY y).map ov))) H'/\acc=(((cY y).take i).map λ o=>ov (gh o))) ⟨Same.refl _,rfl⟩ ?_ ?_ ?_ ?_⟩
  ·rintro i acc H' hi ⟨s1,rfl⟩;refine ⟨.of (s1 _ _ hb),?_⟩;rw [ag,be];omega
  ·show 5<=sizeLine;decide
  ·rintro i x acc H' hx hlt ⟨s1,rfl⟩;rw [ag] at hlt;have ex:(cY y)[i]?=some (cY y)[i]:=by simp [hlt]
   rw [aL,ex] at hx;cases hx;refine ⟨Wk.set rfl,tT ?_⟩;have nxt:∀ v,v=ov (gh (cY y)[i])->∃ m',m' < ((cY y).map ov).length - i/\CW ((cY y).map ov).length (λ i acc H'=>Same (upd H l (.lst ((cY y).map ov))) H'/\acc=(((cY y).take i).map λ o=>ov (gh o))) (i+1) m' ((((cY y).take i).map λ o=>ov (gh o))++[v]) H':=λ v e=>by
    refine cw (by rw [ag];exact hlt) ⟨s1,?_⟩;rw [List.take_add_one,ex,aJ,e];rfl
   refine ⟨_,rfl,rfl,_,rfl,?_⟩;cases e:(cY y)[i] with
   | none=>
    refine aw (nxt _ ?_);rw [e];rfl
   | some z=>
    refine ap ⟨_,_,rfl,rfl,_,rfl,_,_,rfl,rfl,nxt _ ?_⟩;rw [e];rfl
  ·rintro acc H' ⟨s1,rfl⟩ q hq;refine k q _ (az (s0.trans s1) hq) ((s0.trans s1).free hq) ?_;rw [af,ag,aX];show some (HO.lst _)=some (HO.lst _);rw [bn,List.map_map];rfl
theorem zgt  : ∀ n,n<=xs.length->0<=(aq (xs.take n)).widest:=by
 intro n;induction n with
 | zero=>intro _;simp [iD,Ty.zero]
 | succ n ih=>
  intro h;rw [fP h];have ih:=ih (by omega);show 0<=(match at' xs n with
   | .none=>(aq (xs.take n)).widest
   | .some i=>if 0 < (aq (xs.take n)).length/\(aq (xs.take n)).none=false then (if bD (i - (aq (xs.take n)).last.getD 0) > (aq (xs.take n)).widest then bD (i - (aq (xs.take n)).last.getD 0) else (aq (xs.take n)).widest) else (aq (xs.take n)).widest)
  cases at' xs n with
  | none=>exact ih
  | some i=>
   have:=md (i - (aq (xs.take n)).last.getD 0);dsimp only
   split
   ·split <;> assumption
   ·exact ih
theorem pV(h:0 < xs.length)(hl:xs.length<=1000):YOk (aq xs) where
 pos:=by
  have:=pT xs.length (Nat.le_refl _);rw [aX] at this;rw [this];exact se h
 bl:=by
  have:=pT xs.length (Nat.le_refl _);rw [aX] at this;rw [this];exact Nat.le_trans (me _ _) hl
 len:=by rw [vR];exact hl
 hi:=by
  have:=zgs xs.length (Nat.le_refl _);rw [aX] at this;obtain ⟨h1,h2⟩:=this;rw [h1,h2];cases e:aZ xs with
  | nil=>exact .inl ⟨rfl,rfl⟩
  | cons x r=>
   obtain ⟨a,ha⟩:=i4 (l:=x::r) (by simp);have hb:∃ b,c7 (x::r)=some b:=⟨_,rfl⟩
   obtain ⟨b,hb⟩:=hb;exact .inr ⟨a,b,ha,hb,il ha b (j7 hb)⟩
 wid:=by
  have:=zgt xs.length (Nat.le_refl _)
  rwa [aX] at this
noncomputable def fix(l:List OI)(v:OI):Nat:=match l with
 | []=>0
 | x::r=>if x=v then 0 else fix r v+1
theorem rY:∀ {l:List OI} {v:OI},v∈l->l[fix l v]?=some v
 | x::r,v,h=>by
  unfold fix;by_cases e:x=v
  ·rw [if_pos e];simp [e]
  ·rw [if_neg e];have:v∈r:=by
    rcases al_mc.mp h with z | z
    ·exact absurd z.symm e
    ·exact z
   simpa using rY this
theorem rZ:∀ {l:List OI} {v:OI} {m:Nat} {z:OI},m < fix l v->l[m]?=some z->z≠v
 | x::r,v,m,z,h,hz=>by
  unfold fix at h;by_cases e:x=v
  ·rw [if_pos e] at h;omega
  ·rw [if_neg e] at h;cases m with
   | zero=>simp at hz;rw [← hz];exact e
   | succ m=>exact rZ (l:=r) (m:=m) (by omega) (by simpa using hz)
theorem uO  : ∃ M,cb (aZ (bn y))=some M/\some M∈bn y:=by
 have hne:aZ (bn y)≠[]:=by simp [aZ,bn,cY,gh]
 obtain ⟨M,hM⟩:=i4 hne;exact ⟨M,hM,mem_somes.mp (i3 hM)⟩
theorem o7{d:Addr}(s:Same H H')(h:dS C H p d y):dS C H' p d y:=by
 obtain ⟨⟨dx,h1⟩,h2⟩:=h;exact ⟨⟨dx,s _ _ h1⟩,s _ _ h2⟩
noncomputable def pB(C:Addr):Sp:=λ vs H Q _=>∃ (p d:Addr) (y:Ty) (M:Int),vs=[.ref p]/\dS C H p d y/\YOk y/\cb (aZ (bn y))=some M/\∀ H',Same H H'->Q (.int M) H'
theorem zfr:aA ["self"] ["self"] (av nE):=by walk_at "sc"
theorem zbF:(["found"]:List Str).Nodup:=by decide +kernel
theorem zcV(T:Txt K mg t)(C1:bB P w K mg base CX0 4 t.au "rooms" ["self"] (kE t.au))(F:Fun K "least_room" "Tally.least_room" nE f fd):FnOk P w K mg base CX0 5 f fd ["self"] (pB t.au):=by
 obtain ⟨f1,fd1,G1,m1,b1⟩:=C1;refine F.ok zfr (λ vs H Q E h=>?_) (λ cdv A outer s H vs Q E hr h=>?_)
 ·obtain ⟨p,d,y,M,rfl,_⟩:=h;rfl
 ·obtain ⟨p,d,y,M,rfl,TA,Y,hM,k⟩:=h;obtain ⟨⟨dx,hp⟩,hd⟩:=id TA;refine ⟨_,ao (ay (aP (q8 rfl) (by rfl) T.i6 PyProof.Rows.Boot.«min» (aa
   (kf (N:=["found"]) (fr:=[none]) ⟨rfl,rfl,rfl,rfl,rfl,rfl⟩ rfl (bY (fF (pv 0) T.aQ m1 G1 hr b1 .nil ax))
    (λ C fp s H=>⟨aR (i:=0) zbF rfl (Or.inl rfl),jc (aG jb (pv 0) bN (aF _)),pv 0⟩)) ad))),?_⟩
  refine ⟨_,rfl,p,dx,_,rfl,hp,rfl,p,d,y,rfl,TA,Y,λ l H1 s1 hln hl=>?_⟩;refine ⟨l,rfl,⟨_,.of hl⟩,cB (xs:=(bn y).map ov) (λ i acc H'=>Same H1 H'/\acc=(aZ ((bn y).take i)).map V.int) ⟨Same.refl _,rfl⟩ ?_ ?_ ?_ ?_⟩
  ·rintro i acc H' hi ⟨s2,rfl⟩;refine ⟨.of (s2 _ _ hl),?_⟩;rw [ag];have h1:(aZ ((bn y).take i)).length<=((bn y).take i).length:=List.length_filterMap_le _ _;rw [be] at h1;omega
  ·show 5<=sizeLine;decide
  ·rintro i x acc H' hx hlt ⟨s2,rfl⟩;have hlt':i < (bn y).length:=by rwa [ag] at hlt
   have ex:(bn y)[i]?=some (bn y)[i]:=by simp [hlt']
   rw [aL,ex] at hx;cases hx;have tk:(bn y).take (i+1)=(bn y).take i++[(bn y)[i]]:=by rw [List.take_add_one,ex];rfl
   refine ⟨Wk.set rfl,_,rfl,rfl,_,rfl,?_⟩;cases e:(bn y)[i] with
   | none=>
    refine ap (cw hlt ⟨s2,?_⟩);rw [tk,e,pd]
   | some z=>
    refine aw ⟨_,rfl,cw hlt ⟨s2,?_⟩⟩;rw [tk,e,pf,aJ];rfl
  ·rintro acc H' ⟨s2,rfl⟩ q hq;refine ⟨q,aZ (bn y),M,rfl,.of ?_,i3 hM,il hM,k _ (az (s1.trans s2) hq)⟩;rw [af,ag,aX]
noncomputable def pK(K:W.Frag)(C:Addr):Sp:=λ vs H Q _=>∃ (p:Addr) (xs:List OI),vs=[.ref p]/\SqL K H p (xs.map ov)/\xs.length<=1000/\∀ (q d:Addr) (H':Hp),Same H H'->dS C H' q d (aq xs)->Q (.ref q) H'
theorem sc_tally_of:aA ["values", "tally", "value"] ["values"] (av oX):=by walk_at "sc"
theorem zdr(T:Txt K mg t)(CI:iJ P w K mg base CX0 1 t.au ["self"] (px t.au))(CA:bB P w K mg base CX0 4 t.au "add" ["self", "value"] (ph t.au))(F:Fun K "tally_of" "tally_of" oX f fd):
  FnOk P w K mg base CX0 5 f fd ["values"] (pK K t.au):=by
 obtain ⟨fI,fdI,GI,mI,bI⟩:=CI;obtain ⟨fA,fdA,GA,mA,bA⟩:=CA;refine F.ok sc_tally_of (λ vs H Q E h=>?_) (λ cdv A outer s H vs Q E hr h=>?_)
 ·obtain ⟨p,xs,rfl,_⟩:=h;rfl
 ·obtain ⟨p,xs,rfl,hS,hl,k⟩:=h;refine ⟨_,ak (aE (i:=1) sc_tally_of.nd rfl (Or.inl rfl) (tX mI GI (hr.mono (by decide)) rfl T.sh bI .nil ax))
   (ak (uc PassesOwn.never rfl (bY (pv 0)) (aR (i:=2) sc_tally_of.nd rfl (Or.inl rfl)) (ao (bV (bU (pv 1) T.aQ mA GA hr bA .nil ax (aa (pv 2) ad)))))
   (ao (ay (pv 1)))),?_⟩
  intro x dx nx ndx nex;refine ⟨x,dx,rfl,af,λ d H1 fd0 D1 kp=>⟨rfl,?_⟩⟩;have s0:Same H (upd (upd H dx (.own x)) x (.ins t.au dx [])):=λ b o e=>by
   rw [ai (aK e nx),ai (aK e ndx)];exact e
  have nd0:H d=none:=s0.free fd0;have s1:Same H H1:=λ b o e=>by
   rw [kp b (aK e nx) (aK e nd0)];exact s0 b o e
  refine ⟨_,rfl,p,rfl,⟨_,s1.seq hS⟩,iU (K:=K) (a:=p) (xs:=xs.map ov) (λ i σ H2=>∃ v:Option V,σ=[some (.ref p),some (.ref x),v]/\Same H H2/\dS t.au H2 x d (aq (xs.take i)))
   ⟨none,rfl,s1,D1⟩ (λ i σ H2 _ ⟨_,_,s2,_⟩=>s2.seq hS) ?_ ?_⟩
  ·rintro i y σ H2 hi ⟨v,rfl,s2,D⟩;have hil:i < xs.length:=by
    have:=(al_gs.mp hi).1
    rwa [ag] at this
   have ex:xs[i]?=some xs[i]:=by simp [hil]
   rw [aL,ex] at hi;cases hi;obtain ⟨⟨dy,h1⟩,hd⟩:=id D;refine ⟨_,rfl,x,dy,_,rfl,h1,rfl,_,rfl,x,d,xs.take i,xs[i],rfl,D,?_,λ H3 D3 kp3=>?_⟩
   ·rw [be];omega
   ·refine ⟨_,rfl,λ b o e=>?_,?_⟩
    ·rw [kp3 b (aK e nx) (aK e nd0)];exact s2 b o e
    ·rw [List.take_add_one,ex];exact D3
  ·rintro σ H2 ⟨v,rfl,s2,D⟩;rw [ag,aX] at D;exact ⟨_,rfl,k x d H2 s2 D⟩
theorem gx:kindsS.Nodup:=by decide +kernel
theorem sH(h:kindsS[j]?=some x):(∃ z,kindsV[j]?=some z/\eqV z (.str x)=true)/\∀ m z,m < j->kindsV[m]?=some z->eqV z (.str x)=false:=by
 constructor
 ·refine ⟨.str x,?_,by simp [eqV]⟩;unfold kindsV;rw [aL,h];rfl
 ·intro m z hm hz;unfold kindsV at hz;rw [aL] at hz;cases e:kindsS[m]? with
  | none=>rw [e] at hz;cases hz
  | some y=>
   rw [e] at hz;cases hz;have:y≠x:=λ q=>by
    subst q;exact absurd (eU gx e h) (Nat.ne_of_lt hm)
   simpa [eqV] using this
theorem fB(h:okB xs=true):0 < xs.length:=by
 simp only [okB,Bool.and_eq_true,decide_eq_true_eq] at h;omega
noncomputable def vq(K:W.Frag)(t:Ad):Sp:=λ vs H Q E=>∃ (p:Addr) (xs:List OI) (x:Str),vs=[.str x,.ref p]/\SqL K H p (xs.map ov)/\xs.length<=1000/\
 (okB xs=false->∀ H',Same H H'->E (.ref t.de) none H')/\(okB xs=true->x∉kindsS->∀ H',Same H H'->E (.ref t.eB) none H')/\
 (okB xs=true->∀ j,kindsS[j]?=some x->∀ H',Same H H'->Q (ov ((bn (aq xs)).getD j .none)) H')
theorem zfv:aA ["kind", "values"] ["kind", "values"] (av oQ):=by walk_at "sc"
theorem zdg(T:Txt K mg t)(C1:Cal P w K mg base (CXr P w) 5 "check_block" ["values"] (pk K t))(C2:Cal P w K mg base (CXr P w) 1 "check_kind" ["kind"] (u5 t))(C3:Cal P w K mg base CX0 5 "tally_of" ["values"] (pK K t.au))(C4:bB P w K mg base CX0 4 t.au "rooms" ["self"] (kE t.au))(F:Fun K "room" "room" oQ f fd):FnOk P w K mg base (CXr P w) 6 f fd ["kind", "values"] (vq K t):=by
 obtain ⟨f4,fd4,G4,m4,b4⟩:=C4;refine F.okX zfv (λ vs H Q E h=>?_) (λ cdv A outer s H vs Q E hr h=>?_)
 ·obtain ⟨p,xs,x,rfl,_⟩:=h;rfl
 ·obtain ⟨p,xs,x,rfl,hS,hl,k1,k2,k3⟩:=h;refine ⟨_,ak (bV (C1.pe hr cV (aa (pv 1) ad))) (ak (bV (C2.pe hr cV (aa (pv 0) ad)))
   (ao (ay (aN sD (fF (C3.pe hr ax (aa (pv 1) ad)) T.aQ m4 G4 (hr.mono (by decide)) b4 .nil ax)
    (mT PySem.F.plainAttrs_tuple PySem.F.slot_tuple_index PySem.F.type_tuple_index sY (di T.hV) (aa (pv 0) ad)) (λ _ _=>rfl))))),?_⟩
  refine ⟨_,rfl,p,xs,rfl,hS,hl,λ okb H1 s1=>?_,k1⟩;refine ⟨_,rfl,x,rfl,λ hx=>?_,λ hx=>k2 okb hx H1 s1⟩;obtain ⟨j,hj⟩:=List.getElem?_of_mem hx;obtain ⟨q1,q2⟩:=sH hj;refine ⟨_,rfl,p,xs,rfl,s1.seq hS,hl,λ q d H2 s2 D2=>?_⟩;obtain ⟨⟨dx,h2⟩,hd2⟩:=id D2;refine ⟨q,dx,_,rfl,h2,rfl,q,d,aq xs,rfl,D2,pV (fB okb) hl,λ l H3 s3 hln h3=>?_⟩;refine ⟨.inr (.inl ⟨rfl,T.sG⟩),_,rfl,t.dU,kindsV,.str x,j,rfl,rfl,T.ij _,rfl,rfl,q1,q2,?_⟩;refine ⟨l,_,(j:Int),ov ((bn (aq xs)).getD j .none),rfl,rfl,.of h3,dG ?_,k3 okb j hj H3 ((s1.trans s2).trans s3)⟩;have hj5:j < 5:=by
   have:=(al_gs.mp hj).1;exact this
  have hj':j < (bn (aq xs)).length:=hj5;rw [aL];simp [List.getD,hj']
noncomputable def ci(xs:List OI):Nat:=fix (bn (aq xs)) (cb (aZ (bn (aq xs))))
noncomputable def uU(K:W.Frag)(t:Ad):Sp:=λ vs H Q E=>∃ (p:Addr) (xs:List OI),vs=[.ref p]/\SqL K H p (xs.map ov)/\xs.length<=1000/\
 (okB xs=false->∀ H',Same H H'->E (.ref t.de) none H')/\(okB xs=true->∀ H',Same H H'->Q (.str (kindsS.getD (ci xs) "")) H')
theorem sc_best:aA ["values", "tally"] ["values"] (av nK):=by walk_at "sc"
theorem qD(xs:List OI):∃ M,cb (aZ (bn (aq xs)))=some M/\(bn (aq xs))[ci xs]?=some (some M)/\∀ m z,m < ci xs->(bn (aq xs))[m]?=some z->z≠some M:=by
 obtain ⟨M,h1,h2⟩:=uO (y:=aq xs);refine ⟨M,h1,?_,λ m z hm hz=>?_⟩
 ·unfold ci;rw [h1];exact rY h2
 ·unfold ci at hm;rw [h1] at hm;exact rZ hm hz
theorem zcs(T:Txt K mg t)(C1:Cal P w K mg base (CXr P w) 5 "check_block" ["values"] (pk K t))(C3:Cal P w K mg base CX0 5 "tally_of" ["values"] (pK K t.au))(C4:bB P w K mg base CX0 4 t.au "rooms" ["self"] (kE t.au))(C5:bB P w K mg base CX0 5 t.au "least_room" ["self"] (pB t.au))(F:Fun K "best_kind" "best_kind" nK f fd):
  FnOk P w K mg base (CXr P w) 6 f fd ["values"] (uU K t):=by
 obtain ⟨f4,fd4,G4,m4,b4⟩:=C4;obtain ⟨f5,fd5,G5,m5,b5⟩:=C5;refine F.okX sc_best (λ vs H Q E h=>?_) (λ cdv A outer s H vs Q E hr h=>?_)
 ·obtain ⟨p,xs,rfl,_⟩:=h;rfl
 ·obtain ⟨p,xs,rfl,hS,hl,k1,k2⟩:=h;refine ⟨_,ak (bV (C1.pe hr cV (aa (pv 0) ad))) (ak (aE (i:=1) sc_best.nd rfl (Or.inl rfl) (C3.pe hr ax (aa (pv 0) ad)))
   (ao (ay (aN sE (di T.hV) (mT PySem.F.plainAttrs_list PySem.F.slot_list_index PySem.F.type_list_index sW (fF (pv 1) T.aQ m4 G4 (hr.mono (by decide)) b4 .nil ax)
    (aa (fF (pv 1) T.aQ m5 G5 hr b5 .nil ax) ad)) (λ _ _=>rfl))))),?_⟩
  refine ⟨_,rfl,p,xs,rfl,hS,hl,λ okb H1 s1=>?_,k1⟩;refine ⟨_,rfl,p,xs,rfl,s1.seq hS,hl,λ q d H2 s2 D2=>?_⟩;obtain ⟨⟨dx,h2⟩,hd2⟩:=id D2;have Y:=pV (fB okb) hl;obtain ⟨M,hM,hj,hno⟩:=qD xs;refine ⟨_,rfl,q,dx,_,rfl,h2,rfl,q,d,aq xs,rfl,D2,Y,λ l H3 s3 hln h3=>?_⟩;have D3:=o7 s3 D2;obtain ⟨⟨dx3,h33⟩,hd3⟩:=id D3;refine ⟨.inl ⟨rfl,_,.of h3⟩,_,rfl,q,dx3,_,rfl,h33,rfl,q,d,aq xs,M,rfl,D3,Y,hM,λ H4 s4=>?_⟩;have hj5:ci xs < 5:=(al_gs.mp hj).1;refine ⟨l,_,.int M,ci xs,rfl,rfl,s4 _ _ h3,zdK _,rfl,⟨ov (some M),by rw [aL,hj];rfl,by show eqV (.int M) (.int M)=true;simp [eqV]⟩,λ m z hm hz=>?_,?_⟩
  ·rw [aL] at hz;cases e:(bn (aq xs))[m]? with
   | none=>rw [e] at hz;cases hz
   | some z'=>
    rw [e] at hz;cases hz;show eqV (ov z') (ov (some M))=false;rw [zdG];exact aM (hno m z' hm e)
  ·refine ⟨t.dU,kindsV,(ci xs:Int),.str (kindsS.getD (ci xs) ""),rfl,rfl,T.ij _,dG ?_,k2 okb H4 (((s1.trans s2).trans s3).trans s4)⟩;have hj':ci xs < kindsS.length:=hj5;unfold kindsV;rw [aL];simp [List.getD,hj']
theorem sc_packed:aA ["kind", "values", "head"] ["kind", "values"] (av oG):=by walk_at "sc"
noncomputable def cell(ns:List Int)(k:Int):Int:=if ns=[] then 0 else ns.getD (k % (ns.length:Int)).toNat 0
noncomputable def sU(ns:List Int)(k:Int):Int:=(cell ns k+104729 * (k+1)) % 4294967291 * 48271 % 4294967279
noncomputable def mix(ns:List Int)(k:Int):Int:=(sU ns k / 64 * 69621+sU ns k) % 4294967231
local macro_rules | `(tactic| walk_at "rd")=>`(tactic| (repeat (first | (apply Exists.intro) | (apply And.intro;(first | exact rfl | assumption | exact Or.inl (by assumption) | exact SqL.of (by assumption) | exact Or.inl (SqL.of (by assumption)) | exact ⟨_,by assumption⟩ | exact ⟨_,SqL.of (by assumption)⟩ | exact ⟨_,SqT.of (by assumption)⟩ | exact Or.inl ⟨rfl,_,SqL.of (by assumption)⟩ | omega | exact ⟨by decide,by decide⟩ | exact Or.inl ⟨by decide,by decide⟩ | exact Or.inr ⟨by decide,by decide⟩ | (show (0:Int) < _;omega) | exact aB rfl | exact f9 _ _)))))
noncomputable def ve(K:W.Frag):Sp:=λ vs H Q _=>∃ (p:Addr) (ns:List Int) (k:Int),vs=[.ref p,.int k]/\SqL K H p (ns.map V.int)/\Q (.int (cell ns k)) H
theorem zfq:aA ["_law_script", "_law_k"] ["_law_script", "_law_k"] (av ol):=by walk_at "sc"
theorem zcP(T:Txt K mg t)(F:Fun K "_law_cell" "_law_cell" ol f fd):FnOk P w K mg base CX0 1 f fd ["_law_script", "_law_k"] (ve K):=by
 refine F.ok zfq (λ vs H Q E h=>?_) (λ cdv A outer s H vs Q E hr h=>?_)
 ·obtain ⟨p,ns,k,rfl,_⟩:=h;rfl
 ·obtain ⟨p,ns,k,rfl,hS,q⟩:=h;refine ⟨_,(ak (aS (jf K (pv 0)) (ao (ay (aN (bK K) (pv 0) (aj bF (pv 1) (aP (cr K) (by rfl) T.bE PyProof.Rows.Boot.«len» (aa (pv 0) ad))) (λ _ _=>rfl))))
   aY)
  (ao (ay ae))),?_⟩
  refine ⟨_,rfl,p,_,rfl,hS,?_⟩;cases ns with
  | nil=>exact ap q
  | cons n r=>
   refine aw ?_;have hl:0 < ((n::r).length:Int):=by rw [List.length_cons];omega
   have hat:atI ((n::r).map V.int) (k % ((n::r).length:Int))=some (.int (cell (n::r) k)):=by
    refine bW (Int.emod_nonneg _ (by omega)) ?_;have h1:=Int.emod_lt_of_pos k hl;have h0:=Int.emod_nonneg k (b:=((n::r).length:Int)) (by omega);have h2:(k % ((n::r).length:Int)).toNat < (n::r).length:=by omega
    rw [aL,cell,if_neg (by simp),aH h2];simp only [List.getD,aH h2,Option.getD_some,Option.map_some]
   refine ⟨_,rfl,_,rfl,_,rfl,p,_,rfl,.inl hS,_,_,rfl,rfl,by rw [ag];exact hl,?_⟩;rw [ag];exact ⟨p,_,_,_,rfl,rfl,hS,hat,q⟩
noncomputable def jo(K:W.Frag):Sp:=λ vs H Q _=>∃ (p:Addr) (ns:List Int) (k:Int),vs=[.ref p,.int k]/\SqL K H p (ns.map V.int)/\Q (.int (mix ns k)) H
theorem sc_l_mix:aA ["_law_script", "_law_k", "_law_number"] ["_law_script", "_law_k"] (av oq):=by walk_at "sc"
theorem zcQ(T:Txt K mg t)(C__law_cell:Cal P w K mg base CX0 1 "_law_cell" ["_law_script", "_law_k"] (ve K))(F:Fun K "_law_mix" "_law_mix" oq f fd):FnOk P w K mg base CX0 3 f fd ["_law_script", "_law_k"] (jo K):=by
 refine F.ok sc_l_mix (λ vs H Q E h=>?_) (λ cdv A outer s H vs Q E hr h=>?_)
 ·obtain ⟨p,ns,k,rfl,_⟩:=h;rfl
 ·obtain ⟨p,ns,k,rfl,hS,q⟩:=h;refine ⟨_,(ak (aE (i:=2) sc_l_mix.nd rfl (Or.inl rfl) (aj bF (aj a8 (C__law_cell.pe hr ax (aa (pv 0) (aa (pv 1) ad))) (aj d7 ae (aj a8 (pv 1) ae))) ae))
  (ak (aE (i:=2) sc_l_mix.nd rfl (Or.inl rfl) (aj bF (aj d7 (pv 2) ae) ae))
  (ao (ay (aj bF (aj a8 (aj d7 (aj cC (pv 2) ae) ae) (pv 2)) ae))))),?_⟩
  walk_at "rd"
  exact q
noncomputable def vh(K:W.Frag):Sp:=λ vs H Q _=>∃ (p:Addr) (ns:List Int) (k:Int),vs=[.ref p,.int k]/\SqL K H p (ns.map V.int)/\∀ (o:OI) (H':Hp),okV o=true->Same H H'->Q (ov o) H'
theorem sc_l_value:aA ["_law_script", "_law_k", "_law_number", "_law_some"] ["_law_script", "_law_k"] (av oz):=by walk_at "sc"
noncomputable def i0(n:Int):List OI:=[some 0,some 1,some (-1),some 5,some 4000000,some (-4000000),none,some (n / 16 % 9),some (n / 16 % 300 - 150),some (n / 16 % 8000001 - 4000000)]
theorem za7(n:Int):(i0 n).all okV=true:=by
 have h1:=Int.emod_nonneg (n / 16) (b:=9) (by decide);have h2:=Int.emod_lt_of_pos (n / 16) (b:=9) (by decide);have h3:=Int.emod_nonneg (n / 16) (b:=300) (by decide);have h4:=Int.emod_lt_of_pos (n / 16) (b:=300) (by decide);have h5:=Int.emod_nonneg (n / 16) (b:=8000001) (by decide);have h6:=Int.emod_lt_of_pos (n / 16) (b:=8000001) (by decide);simp only [i0,List.all_cons,List.all_nil,okV,Bool.and_true,Bool.and_eq_true,decide_eq_true_eq,true_and];omega
theorem zcS(T:Txt K mg t)(C__law_mix:Cal P w K mg base CX0 3 "_law_mix" ["_law_script", "_law_k"] (jo K))(F:Fun K "_law_value" "_law_value" oz f fd):FnOk P w K mg base CX0 4 f fd ["_law_script", "_law_k"] (vh K):=by
 refine F.ok sc_l_value (λ vs H Q E h=>?_) (λ cdv A outer s H vs Q E hr h=>?_)
 ·obtain ⟨p,ns,k,rfl,_⟩:=h;rfl
 ·obtain ⟨p,ns,k,rfl,hS,q⟩:=h;refine ⟨_,(ak (aE (i:=2) sc_l_value.nd rfl (Or.inl rfl) (C__law_mix.pe hr ax (aa (pv 0) (aa (pv 1) ad))))
  (ak (aE (i:=3) sc_l_value.nd rfl (Or.inl rfl) (bS (aa ae (aa ae (aa (dl dm ae) (aa ae (aa ae (aa (dl dm ae) (aa bN (aa (aj bF (aj cC (pv 2) ae) ae) (aa (aj bR (aj bF (aj cC (pv 2) ae) ae) ae) ad)))))))))))
  (ao (ay (aN (bK K) (aj ir (pv 3) (bS (aa (aj bR (aj bF (aj cC (pv 2) ae) ae) ae) ad))) (aj bF (pv 2) ae) (λ _ _=>rfl)))))),?_⟩
  walk_at "rd"
  intro l hl
  walk_at "rd"
  intro l2 hl2;have nl:l≠l2:=aK af hl2;refine ⟨l,l2,_,_,rfl,rfl,by rw [ai nl];exact af,af,aB rfl,?_⟩;intro l3 hl3;have h0:=Int.emod_nonneg (mix ns k) (b:=10) (by decide);have h1:=Int.emod_lt_of_pos (mix ns k) (b:=10) (by decide);have hlt:(mix ns k % 10).toNat < (i0 (mix ns k)).length:=by show _ < 10;omega
  refine ⟨_,rfl,_,_,rfl,rfl,by show (0:Int) < 10;decide,l3,(i0 (mix ns k)).map ov,_,ov ((i0 (mix ns k))[(mix ns k % 10).toNat]),rfl,rfl,SqL.of af,bW h0 ?_,?_⟩
  ·rw [aL,aH hlt];rfl
  ·refine q _ _ (List.all_eq_true.mp (za7 _) _ (List.getElem_mem _)) ?_;exact az (az (az (Same.refl H) hl) hl2) hl3
theorem zhq(a b c d:V){z:Int}(h0:0<=z)(h1:z < 4):∃ v,atI [a,b,c,d] z=some v/\(v=a\/v=b\/v=c\/v=d):=by
 have hz:z.toNat < 4:=by omega
 have h:∃ v,([a,b,c,d]:List V)[z.toNat]?=some v/\(v=a\/v=b\/v=c\/v=d):=by
  generalize z.toNat=i at hz
  match i,hz with
  | 0,_=>exact ⟨a,rfl,.inl rfl⟩
  | 1,_=>exact ⟨b,rfl,.inr (.inl rfl)⟩
  | 2,_=>exact ⟨c,rfl,.inr (.inr (.inl rfl))⟩
  | 3,_=>exact ⟨d,rfl,.inr (.inr (.inr rfl))⟩
  | (i+4),h=>omega
 obtain ⟨v,e,q⟩:=h;exact ⟨v,bW h0 e,q⟩
theorem cut_take(xs:List OI)(n:Nat):bw (xs.map ov) none (some (n:Int))=(xs.take n).map ov:=by
 unfold bw;rw [HT.sIx_none,HT.sIx_nat,List.drop_zero,ag,Nat.sub_zero,← List.map_take];rcases Nat.le_total n xs.length with h | h
 ·rw [Nat.min_eq_left h]
 ·rw [Nat.min_eq_right h,List.take_of_length_le (Nat.le_refl _),List.take_of_length_le h]
theorem small1000'(h:n<=10000):n < sizeLine:=Nat.lt_of_le_of_lt h (by decide)
noncomputable def ik(H:Hp)(l:Addr):Nat:=match H l with | some (.lst xs)=>xs.length | _=>0
noncomputable def vi(K:W.Frag):Sp:=λ vs H Q _=>∃ (p:Addr) (ns:List Int) (k:Int) (most:Nat),vs=[.ref p,.int k,.int most]/\SqL K H p (ns.map V.int)/\most<=1000/\
 ∀ (l:Addr) (H':Hp) (xs:List OI),Same H H'->H l=none->H' l=some (.lst (xs.map ov))->xs.length<=most->xs.all okV=true->Q (.ref l) H'
theorem sc_l_values:aA ["_law_script", "_law_k", "_law_most", "_law_found", "_law_way", "_law_number", "_law_value_here"] ["_law_script", "_law_k", "_law_most"] (av oA):=by walk_at "sc"
theorem zcT(T:Txt K mg t)(C__law_mix:Cal P w K mg base CX0 3 "_law_mix" ["_law_script", "_law_k"] (jo K))(C__law_value:Cal P w K mg base CX0 4 "_law_value" ["_law_script", "_law_k"] (vh K))(F:Fun K "_law_values" "_law_values" oA f fd):FnOk P w K mg base CX0 5 f fd ["_law_script", "_law_k", "_law_most"] (vi K):=by
 refine F.ok sc_l_values (λ vs H Q E h=>?_) (λ cdv A outer s H vs Q E hr h=>?_)
 ·obtain ⟨p,ns,k,most,rfl,_⟩:=h;rfl
 ·obtain ⟨p,ns,k,most,rfl,hS,hm,q⟩:=h;refine ⟨_,(ak (aE (i:=3) sc_l_values.nd rfl (Or.inl rfl) (bS ad))
  (ak (aE (i:=4) sc_l_values.nd rfl (Or.inl rfl) (aj bF (C__law_mix.pe hr ax (aa (pv 0) (aa (pv 1) ad))) ae))
  (ak (km PassesOwn.never (aG kd (aP (cr K) (by rfl) T.bE PyProof.Rows.Boot.«len» (aa (pv 3) ad)) (aj bF (C__law_mix.pe hr ax (aa (pv 0) (aa (aj a8 (pv 1) ae) ad))) (aj a8 (pv 2) ae)) (aF _))
   (ak (aE (i:=5) sc_l_values.nd rfl (Or.inl rfl) (C__law_mix.pe hr ax (aa (pv 0) (aa (aj a8 (aj a8 (pv 1) ae) (aP (cr K) (by rfl) T.bE PyProof.Rows.Boot.«len» (aa (pv 3) ad))) ad))))
  (ak (aE (i:=6) sc_l_values.nd rfl (Or.inl rfl) (C__law_value.pe hr ax (aa (pv 0) (aa (aj a8 (aj a8 (pv 1) ae) (aP (cr K) (by rfl) T.bE PyProof.Rows.Boot.«len» (aa (pv 3) ad))) ad))))
  (ud (aS (PW.pt (eY (aG bM (pv 4) ae (aF _)) (eY (jf K (pv 3)) (gb (aG jb (aN (bK K) (pv 3) (dl dm ae) (λ _ _=>rfl)) bN (aF _)))))) (ao (aE (i:=6) sc_l_values.nd rfl (Or.inl rfl) (aP (qZ rfl) (by rfl) T.i5 PyProof.Rows.Boot.«max» (aa (dl dm ae) (aa (aP (yb rfl) (by rfl) T.i6 PyProof.Rows.Boot.«min» (aa ae (aa (aj bR (aj a8 (aN (bK K) (pv 3) (dl dm ae) (λ _ _=>rfl)) (aj bF (aj cC (pv 5) ae) ae)) ae) ad))) ad)))))
   aY)
  (ud (aS (PW.pt (eY (aG bM (pv 4) ae (aF _)) (eY (jf K (pv 3)) (gb (aG dh (aj bF (pv 5) ae) ae (aF _)))))) (ao (aE (i:=6) sc_l_values.nd rfl (Or.inl rfl) (aN (bK K) (pv 3) (aj bF (aj cC (pv 5) ae) (aP (cr K) (by rfl) T.bE PyProof.Rows.Boot.«len» (aa (pv 3) ad))) (λ _ _=>rfl))))
   aY)
  (ao (aE (i:=3) sc_l_values.nd rfl (Or.inl rfl) (aj ir (pv 3) (aj mS (bS (aa (pv 6) ad)) (dj (aG bM (pv 4) ae (aF _)) (aN (bK K) (bS (aa ae (aa ae (aa ae (aa ae ad))))) (aj bF (aj cC (pv 5) ae) ae) (λ _ _=>rfl)) ae))))))))))
  (ao (ay (dk (jm K) (pv 3) d9 (cL (pv 2)))))))),?_⟩
  walk_at "rd"
  intro l hl;have s1:Same H (upd H l (.lst [])):=Same.new hl;have hS1:=s1.seq hS
  walk_at "rd"
  refine kM (λ σ H'=>∃ (l:Addr) (xs:List OI) (v5 v6:Option V),σ=[some (.ref p),some (.int k),some (.int most),some (.ref l),some (.int (mix ns k % 4)),v5,v6]/\Same H H'/\H' l=some (.lst (xs.map ov))/\xs.all okV=true/\xs.length<=most+7)
   (λ σ H'=>match σ with | [_,_,_,some (.ref l),_,_,_]=>most - ik H' l | _=>0) ⟨l,[],none,none,rfl,s1,af,rfl,by simp⟩ ?_
  rintro m σ H2 hm2 ⟨l,xs,v5,v6,rfl,s2,h2,ok,hx⟩;have hm2:m=most - xs.length:=by rw [hm2];show most - ik H2 l=_;unfold ik;rw [h2];simp
  have hS2:=s2.seq hS
  walk_at "rd"
  rw [ag];have b1:=Int.emod_nonneg (mix ns (k+1)) (b:=(most:Int)+1) (by omega);have b2:=Int.emod_lt_of_pos (mix ns (k+1)) (b:=(most:Int)+1) (by omega);refine ic (λ hc=>?_) (λ hc=>?_)
  ·have hc:(xs.length:Int) < mix ns (k+1) % ((most:Int)+1):=of_decide_eq_true hc;have hlt:xs.length < most:=by omega
   refine ⟨_,wN,?_⟩
   walk_at "rd"
   intro o H3 oo s3;have h3:=s3 _ _ h2;have hl3:(xs.map ov).length=xs.length:=ag _;generalize mix ns (k+2+(xs.map ov).length)=nb;have wd:∀ (o:OI),okV o=true->Bx (∃ o':OI,okV o'=true/\H3=H3/\([some (.ref p),some (.int k),some (.int most),some (.ref l),some (.int (mix ns k % 4)),some (.int nb),some (ov o)]:St)=[some (.ref p),some (.int k),some (.int most),some (.ref l),some (.int (mix ns k % 4)),some (.int nb),some (ov o')]):=λ o h=>⟨o,h,rfl,rfl⟩
   refine ⟨λ σ' H'=>Bx (∃ o:OI,okV o=true/\H3=H'/\σ'=[some (.ref p),some (.int k),some (.int most),some (.ref l),some (.int (mix ns k % 4)),some (.int nb),some (ov o)]),?_,?_⟩
   ·walk_at "rd"
    refine ic (λ c1=>?_) (λ c1=>ap (wd o oo))
    walk_at "rd"
    rcases List.eq_nil_or_concat xs with rfl | ⟨ys,y,rfl⟩
    ·exact ap (ap (wd o oo))
    ·rw [show (!(List.map ov (ys.concat y)).isEmpty)=true by simp];refine aw ?_;have hat:atI ((ys.concat y).map ov) (-1)=some (ov y):=by
      rw [List.concat_eq_append,aJ];exact lL _ _
     walk_at "rd"
     cases y with
     | none=>exact ap (wd o oo)
     | some y=>
      refine aw ?_
      walk_at "rd"
      refine wd (some _) ?_;simp only [okV,decide_eq_true_eq]
      split <;> split <;> omega
   ·rintro σ4 H4 ⟨o1,oo1,rfl,rfl⟩;refine ⟨λ σ' H'=>Bx (∃ o:OI,okV o=true/\H3=H'/\σ'=[some (.ref p),some (.int k),some (.int most),some (.ref l),some (.int (mix ns k % 4)),some (.int nb),some (ov o)]),?_,?_⟩
    ·walk_at "rd"
     refine ic (λ c1=>?_) (λ c1=>ap (wd o1 oo1))
     walk_at "rd"
     cases xs with
     | nil=>exact ap (ap (wd o1 oo1))
     | cons x xs=>
      refine aw ?_
      walk_at "rd"
      refine ic (λ c2=>?_) (λ c2=>(wd o1 oo1));have hpos:(0:Int) < ((x::xs).map ov).length:=by rw [ag,List.length_cons];omega
      have m0:=Int.emod_nonneg (nb / 16) (b:=(((x::xs).map ov).length:Int)) (by omega);have m1:=Int.emod_lt_of_pos (nb / 16) hpos;have hi:(nb / 16 % (((x::xs).map ov).length:Int)).toNat < (x::xs).length:=by rw [← ag (f:=ov) (as:=x::xs)];omega
      refine ⟨_,rfl,_,rfl,_,_,rfl,rfl,⟨by decide,by decide⟩,_,rfl,l,_,rfl,.inl (SqL.of h3),_,_,rfl,rfl,hpos,l,_,_,ov (x::xs)[(nb / 16 % (((x::xs).map ov).length:Int)).toNat],rfl,rfl,SqL.of h3,bW m0 ?_,wd _ (List.all_eq_true.mp ok _ (List.getElem_mem _))⟩;rw [aL,aH hi];rfl
    ·rintro σ4 H4 ⟨o2,oo2,rfl,rfl⟩;clear wd
     -- how often
     have wr:∀ (r:Int) (H5:Hp) (l5:Addr),1<=r->r<=7->Same H3 H5->H5 l5=some (.lst [ov o2])->l≠l5->
       up (.ref l5) (.int r) H5 λ v5 H6=>uh (.ref l) v5 H6 λ v H7=>(λ (σ':St) (H':Hp)=>(∃ (l:Addr) (xs:List OI) (v5 v6:Option V),σ'=[some (.ref p),some (.int k),some (.int most),some (.ref l),some (.int (mix ns k % 4)),v5,v6]/\Same H H'/\H' l=some (.lst (xs.map ov))/\xs.all okV=true/\xs.length<=most+7)/\
        (match σ' with | [_,_,_,some (.ref l),_,_,_]=>most - ik H' l | _=>0) < m) [some (.ref p),some (.int k),some (.int most),some v,some (.int (mix ns k % 4)),some (.int nb),some (ov o2)] H7:=by
      intro r H5 l5 r1 r7 s5 h5 n5;refine ⟨l5,r,_,rfl,rfl,h5,by omega,by omega,?_,λ p6 hp6=>?_⟩
      ·rw [dF,Nat.one_mul];exact Nat.le_trans (show r.toNat<=7 by omega) (by decide)
      ·have er:(List.replicate r.toNat [ov o2]).flatten=(List.replicate r.toNat o2).map ov:=by simp
       rw [er];have h56:=s5 _ _ h3;have n6:l≠p6:=aK h56 hp6;refine ⟨l,p6,_,_,rfl,rfl,by rw [ai n6];exact h56,af,?_,λ p7 hp7=>?_⟩
       ·rw [ag,ag,List.length_replicate];exact Nat.le_of_lt (small1000' (by omega))
       ·have s7:Same H (upd (upd H5 p6 (.lst ((List.replicate r.toNat o2).map ov))) p7 (.lst (xs.map ov++(List.replicate r.toNat o2).map ov))):=az (az ((s2.trans s3).trans s5) hp6) hp7;have e7:xs.map ov++(List.replicate r.toNat o2).map ov=(xs++List.replicate r.toNat o2).map ov:=by rw [aJ]
        refine ⟨⟨p7,xs++List.replicate r.toNat o2,_,_,rfl,s7,by rw [af,e7],?_,?_⟩,?_⟩
        ·rw [List.all_append,ok,Bool.true_and,List.all_eq_true];intro z hz;rw [(List.mem_replicate.mp hz).2];exact oo2
        ·rw [bc,List.length_replicate];omega
        ·show most - ik _ p7 < m;unfold ik;rw [af];simp only [bc,ag,List.length_replicate];omega
     refine ⟨_,rfl,_,rfl,aB rfl,λ l5 hl5=>?_⟩;have n5:l≠l5:=aK h3 hl5;refine ⟨_,rfl,rfl,_,rfl,ic (λ c3=>?_) (λ c3=>?_)⟩
     ·refine ⟨by decide,λ l6 hl6=>?_⟩;have n56:l5≠l6:=aK af hl6;have q0:=Int.emod_nonneg (nb / 4096) (b:=4) (by decide);have q1:=Int.emod_lt_of_pos (nb / 4096) (b:=4) (by decide);have:∃ r:Int,1<=r/\r<=7/\([.int 1,.int 1,.int 3,.int 7]:List V)[(nb / 4096 % 4).toNat]?=some (.int r):=by
       have hz:(nb / 4096 % 4).toNat < 4:=by omega
       generalize (nb / 4096 % 4).toNat=z at hz ⊢
       match z,hz with
       | 0,_=>exact ⟨1,by decide,by decide,rfl⟩
       | 1,_=>exact ⟨1,by decide,by decide,rfl⟩
       | 2,_=>exact ⟨3,by decide,by decide,rfl⟩
       | 3,_=>exact ⟨7,by decide,by decide,rfl⟩
       | (z+4),h=>omega
      obtain ⟨r,r1,r7,hr'⟩:=this;refine ⟨_,rfl,_,_,rfl,rfl,⟨by decide,by decide⟩,_,_,rfl,rfl,by show (0:Int) < 4;decide,l6,_,_,_,rfl,rfl,SqL.of af,bW q0 hr',?_⟩;exact wr r _ l5 r1 r7 (az (Same.new hl5) hl6) (by rw [ai n56];exact af) n5
     ·exact wr 1 _ l5 (by decide) (by decide) (Same.new hl5) af n5
  ·-- found[:most]
   refine ⟨_,rfl,?_⟩
   walk_at "rd"
   intro l2 hl2;have s3:Same H (upd H2 l2 (.lst ((xs.take most).map ov))):=az s2 hl2;refine q l2 _ (xs.take most) (by rw [cut_take];exact s3) (s2.free hl2) (by rw [cut_take];exact af) (by rw [be];omega) ?_;rw [List.all_eq_true] at ok ⊢;exact λ x hx=>ok x (List.mem_of_mem_take hx)
theorem yE(xs:List OI):∀ n,dif xs (n+1)<=n
 | 0=>by simp [dif]
 | n+1=>by
  have:=yE xs n;rw [dif]
  split <;> omega
theorem gf(xs:List OI):∀ n,(stp xs (n+1)).length=n
 | 0=>by simp [stp]
 | n+1=>by
  have:=gf xs n;rw [stp,if_pos (by omega),bc,this];rfl
theorem getD_at'{i:Nat}(h:i < xs.length):xs[i]?=some (at' xs i):=by
 rw [aH h,at'_of (aH h)]
theorem xl(hv:v∈xs):0<=above ((cb (aZ xs)).getD 0) v:=by
 cases v with
 | none=>simp [above]
 | some i=>
  obtain ⟨m,hm⟩:∃ m,cb (aZ xs)=some m:=by
   cases e:aZ xs with
   | nil=>have:=mem_somes.mpr hv;rw [e] at this;cases this
   | cons x r=>exact ⟨_,rfl⟩
  have:=il hm i (mem_somes.mpr hv);simp [above,hm];omega
theorem zfM(hn : .none∉xs){i:Nat}(h:i < xs.length):∃ a,at' xs i=some a:=by
 cases e:at' xs i with
 | none=>
  have:xs[i]?=some .none:=by rw [getD_at' h,e]
  exact absurd (cA this) hn
 | some a=>exact ⟨a,rfl⟩
theorem zeJ(xs:List OI):(aq xs).none=true↔.none∈xs:=by
 have:=vS (xs:=xs) xs.length (Nat.le_refl _)
 rwa [aX] at this
theorem zfP(a:Str):decide (V.str a=V.str a)=true:=aO rfl
theorem rX(h:kindsS[j]?=some x):(j=0/\x = "plain")\/(j=1/\x = "runs")\/(j=2/\x = "book")\/(j=3/\x = "base")\/(j=4/\x = "steps"):=by
 match j,h with
 | 0,h=>exact .inl ⟨rfl,(Option.some.inj h).symm⟩
 | 1,h=>exact .inr (.inl ⟨rfl,(Option.some.inj h).symm⟩)
 | 2,h=>exact .inr (.inr (.inl ⟨rfl,(Option.some.inj h).symm⟩))
 | 3,h=>exact .inr (.inr (.inr (.inl ⟨rfl,(Option.some.inj h).symm⟩)))
 | 4,h=>exact .inr (.inr (.inr (.inr ⟨rfl,(Option.some.inj h).symm⟩)))
 | (j+5),h=>cases h
noncomputable def rm(xs:List OI)(j:Nat):OI:=(bn (aq xs)).getD j .none
noncomputable def fh(ys:List OI):Int:=(cb (aZ (bn (aq ys)))).getD 0
theorem qB{ys:List OI}(h:cb (aZ (bn (aq ys)))=some M):M=fh ys:=by unfold fh;rw [h];rfl
theorem xO(ys:List OI):cb (aZ (bn (aq ys)))=some (fh ys):=by
 obtain ⟨M,h,_⟩:=uO (y:=aq ys);rw [h,qB h]
noncomputable def lr(xs:List OI)(b e:Nat):Int:=fh ((xs.drop b).take (e - b))
noncomputable def iy(xs:List OI)(b:Nat):List Int:=(List.range (xs.length - b)).map λ k=>fh ((xs.drop b).take (k+1))
theorem zeQ(hb:b < e)(he:e<=xs.length):(iy xs b)[e - b - 1]?=some (lr xs b e):=by
 unfold iy lr;rw [aL,List.getElem?_range (by omega)];simp only [Option.map_some];rw [show e - b - 1+1=e - b by omega]
noncomputable def gw(l:List Int):Int:=(cb l).getD 0
theorem sT(h:l≠[]):gw l∈l:=by
 obtain ⟨m,hm⟩:=i4 h;unfold gw;rw [hm];exact i3 hm
theorem za8  : ∀ i∈l,gw l<=i:=λ i hi=>by
 obtain ⟨m,hm⟩:=i4 (List.ne_nil_of_mem hi);unfold gw;rw [hm];exact il hm i hi
noncomputable def prL(xs:List OI):Nat->List Int
 | 0=>[0]
 | k+1=>prL xs k++[gw ((List.range (k+1)).map λ b=>(prL xs k).getD b 0+lr xs b (k+1))]
theorem je(xs:List OI):∀ k,(prL xs k).length=k+1
 | 0=>rfl
 | k+1=>by rw [prL,bc,je xs k];rfl
noncomputable def pr(xs:List OI)(j:Nat):Int:=(prL xs j).getD j 0
theorem mW(xs:List OI):∀ k j,j<=k->(prL xs k)[j]?=some (pr xs j)
 | 0,j,h=>by
  have:j=0:=by omega
  subst this;rfl
 | k+1,j,h=>by
  by_cases hj:j=k+1
  ·subst hj;unfold pr;have hl:k+1 < (prL xs (k+1)).length:=by rw [je];omega
   rw [aH hl];simp [List.getD,hl]
  ·have hl:j < (prL xs k).length:=by rw [je];omega
   rw [prL,List.getElem?_append_left hl];exact mW xs k j (by omega)
theorem t5(h:j<=k):(prL xs k).getD j 0=pr xs j:=by
 simp [List.getD,mW xs k j h]
theorem kl(xs:List OI)(k:Nat):pr xs (k+1)=gw ((List.range (k+1)).map λ b=>pr xs b+lr xs b (k+1)):=by
 have hl:(prL xs k).length=k+1:=je xs k;have e:pr xs (k+1)=gw ((List.range (k+1)).map λ b=>(prL xs k).getD b 0+lr xs b (k+1)):=by
  show (prL xs k++[_]).getD (k+1) 0=_;simp [List.getD,hl]
 rw [e]
 congr 1
 apply List.map_congr_left;intro b hb;rw [t5 (by have:=List.mem_range.mp hb;omega)]
theorem t9(xs:List OI)(h:0 < e):∃ b,b < e/\pr xs b+lr xs b e=pr xs e:=by
 obtain ⟨k,rfl⟩:∃ k,e=k+1:=⟨e - 1,by omega⟩
 have hm:pr xs (k+1)∈(List.range (k+1)).map λ b=>pr xs b+lr xs b (k+1):=by
  rw [kl];exact sT (by simp)
 obtain ⟨b,hb,e⟩:=List.mem_map.mp hm;exact ⟨b,List.mem_range.mp hb,e⟩
noncomputable def okC(xs:List OI):Bool:=decide (xs.length<=64) && xs.all okV
theorem ip(h:okC xs=true):xs.length<=64:=by
 simp only [okC,Bool.and_eq_true,decide_eq_true_eq] at h;exact h.1
noncomputable def uY(K:W.Frag)(t:Ad):Sp:=λ vs H Q E=>∃ (p:Addr) (xs:List OI),vs=[.ref p]/\SqL K H p (xs.map ov)/\xs.length<=1000/\
 (okC xs=true->∀ H',Same H H'->Q .non H')/\(okC xs=false->∀ H',Same H H'->E (.ref t.de) none H')
theorem zfd:aA ["values"] ["values"] (av nQ):=by walk_at "sc"
theorem zcy(T:Txt K mg t)(jx:Cal P w K mg base CX0 3 "are_values" ["values"] (pj K))(F:Fun K "check_column" "check_column" nQ f fd):FnOk P w K mg base (CXr P w) 4 f fd ["values"] (uY K t):=by
 refine F.okX zfd (λ vs H Q E h=>?_) (λ cdv A outer s H vs Q E hr h=>?_)
 ·obtain ⟨p,xs,rfl,_⟩:=h;rfl
 ·obtain ⟨p,xs,rfl,hS,hl,k1,k2⟩:=h;have el:(xs.map ov).length=xs.length:=ag _;refine ⟨_,(ao (aS (PW.pt (eZ (aG dh (aP (cr K) (by rfl) T.bE PyProof.Rows.Boot.«len» (aa (pv 0) ad)) (bf T.zg) (aF _)) (fL (ef (c9 (jx.pe hr ax (aa (pv 0) ad))))))) (ao (eF eG T.wj rfl (by rfl) T.mi (aa aD ad)))
   aY)),?_⟩
  walk_at "rd"
  rw [el];by_cases c:64 < xs.length
  ·rw [aO (show (64:Int) < (xs.length:Int) by omega)];have e:okC xs=false:=by unfold okC;rw [aM (by omega),Bool.false_and]
   exact aw (aw ⟨by show 1<=sizeLine;decide,k2 e H (Same.refl H)⟩)
  ·rw [aM (show ¬ (64:Int) < (xs.length:Int) by omega)];refine ap ⟨_,rfl,p,xs,rfl,hS,hl,λ H' s1=>⟨_,rfl,?_⟩⟩;have e:okC xs=xs.all okV:=by unfold okC;rw [aO (by omega),Bool.true_and]
   cases e2:xs.all okV with
   | true=>exact ap (k1 (e.trans e2) H' s1)
   | false=>exact aw ⟨by show 1<=sizeLine;decide,k2 (e.trans e2) H' s1⟩
theorem cut_drop(xs:List OI)(h:b<=xs.length):bw (xs.map ov) (some (b:Int)) none=(xs.drop b).map ov:=by
 unfold bw;rw [HT.sIx_none,HT.sIx_nat,ag,Nat.min_eq_left h,← List.map_drop,List.take_of_length_le (by simp)]
noncomputable def vt(K:W.Frag):Sp:=λ vs H Q _=>∃ (p:Addr) (xs:List OI) (b:Nat),vs=[.ref p,.int b]/\SqL K H p (xs.map ov)/\xs.length<=1000/\b < xs.length/\
 ∀ (l:Addr) (H':Hp),Same H H'->H l=none->H' l=some (.lst ((iy xs b).map V.int))->Q (.ref l) H'
theorem sc_rooms_from:aA ["values", "begin", "tally", "rooms", "value"] ["values", "begin"] (av oS):=by walk_at "sc"
theorem zdj(T:Txt K mg t)(CI:iJ P w K mg base CX0 1 t.au ["self"] (px t.au))(CA:bB P w K mg base CX0 4 t.au "add" ["self", "value"] (ph t.au))(CL:bB P w K mg base CX0 5 t.au "least_room" ["self"] (pB t.au))(F:Fun K "rooms_from" "rooms_from" oS f fd):FnOk P w K mg base CX0 6 f fd ["values", "begin"] (vt K):=by
 obtain ⟨zg9,zhj,w6,zaQ,xG⟩:=CI;obtain ⟨zg5,zhf,wX,zaM,xC⟩:=CA;obtain ⟨zha,zhk,w9,zaS,xH⟩:=CL;refine F.ok sc_rooms_from (λ vs H Q E h=>?_) (λ cdv A outer s H vs Q E hr h=>?_)
 ·obtain ⟨p,xs,b,rfl,_⟩:=h;rfl
 ·obtain ⟨p,xs,b,rfl,hS,hl,hb,q⟩:=h;refine ⟨_,(ak (aE (i:=2) sc_rooms_from.nd rfl (Or.inl rfl) (tX zaQ w6 (hr.mono (by decide)) rfl T.sh xG .nil ax))
  (ak (aE (i:=3) sc_rooms_from.nd rfl (Or.inl rfl) (bS ad))
  (ak (fK PassesOwn.never rfl (bY (dk (jm K) (pv 0) (cL (pv 1)) d9)) (aR (i:=4) sc_rooms_from.nd rfl (Or.inl rfl))
   (ak (bV (bU (pv 2) T.aQ zaM wX (hr.mono (by decide)) xC .nil ax (aa (pv 4) ad)))
  (ao (bV (cD K PySem.F.plainAttrs_list PySem.F.slot_list_append PySem.F.type_list_append im (pv 3) (aa (fF (pv 2) T.aQ zaS w9 (hr.mono (by decide)) xH .nil ax) ad))))))
  (ao (ay (pv 3)))))),?_⟩
  intro x dx nx ndx nex;refine ⟨x,dx,rfl,af,λ d H1 fd0 D1 kp=>?_⟩;have s0:Same H (upd (upd H dx (.own x)) x (.ins t.au dx [])):=λ b o e=>by
   rw [ai (aK e nx),ai (aK e ndx)];exact e
  have nd0:H d=none:=s0.free fd0;have s1:Same H H1:=λ b o e=>by
   rw [kp b (aK e nx) (aK e nd0)];exact s0 b o e
  walk_at "rd"
  intro l hln;have hH1l:=s1.free hln;obtain ⟨⟨dy,hx1⟩,hd1⟩:=id D1;have nxl:x≠l:=aK hx1 hln;have ndl:d≠l:=aK hd1 hln;have s2:Same H (upd H1 l (.lst [])):=az s1 hln;have hS2:=s2.seq hS;have D2:dS t.au (upd H1 l (.lst [])) x d Ty.zero:=⟨⟨dy,by rw [ai nxl];exact hx1⟩,by rw [ai ndl];exact hd1⟩
  have h2:(upd H1 l (.lst [])) l=some (.lst []):=af;generalize upd H1 l (.lst [])=H2 at s2 hS2 D2 h2
  walk_at "rd"
  intro l3 hl3;rw [cut_drop xs (by omega)];have s3:Same H2 (upd H2 l3 (.lst ((xs.drop b).map ov))):=Same.new hl3;have h3:(upd H2 l3 (.lst ((xs.drop b).map ov))) l3=some (.lst ((xs.drop b).map ov)):=af;have n3x:l3≠x:=λ z=>by obtain ⟨⟨_,e⟩,_⟩:=D2;rw [z,e] at hl3;cases hl3
  have n3d:l3≠d:=λ z=>by obtain ⟨_,e⟩:=D2;rw [z,e] at hl3;cases hl3
  have n3l:l3≠l:=λ z=>by rw [z,h2] at hl3;cases hl3
  have hH3:=s2.free hl3;have ld:(xs.drop b).length=xs.length - b:=List.length_drop;refine ⟨l3,rfl,⟨_,SqL.of h3⟩,⟨iU (K:=K) (a:=l3) (xs:=(xs.drop b).map ov) (λ i σ H'=>∃ v:Option V,σ=[some (.ref p),some (.int b),some (.ref x),some (.ref l),v]/\Same H H'/\H' l3=some (.lst ((xs.drop b).map ov))/\
    dS t.au H' x d (aq ((xs.drop b).take i))/\H' l=some (.lst (((List.range i).map λ k=>fh ((xs.drop b).take (k+1))).map V.int)))
   ⟨none,rfl,s2.trans s3,h3,o7 s3 D2,s3 _ _ h2⟩ (λ i σ H' hi hp=>by obtain ⟨_,_,_,h,_⟩:=hp;exact SqL.of h) ?_ ?_⟩⟩
  ·rintro i y σ H4 hi ⟨v,rfl,s4,h4,D4,g4⟩;have hil:i < (xs.drop b).length:=by
    have:=(al_gs.mp hi).1
    rwa [ag] at this
   rw [aL,getD_at' hil] at hi;cases hi;obtain ⟨⟨dz,e4⟩,ed4⟩:=id D4;have nlx:l≠x:=dD g4 e4 (by intro z;cases z);have nld:l≠d:=dD g4 ed4 (by intro z;cases z);refine ⟨_,rfl,x,dz,_,rfl,e4,rfl,_,rfl,x,d,(xs.drop b).take i,at' (xs.drop b) i,rfl,D4,by rw [be];omega,λ H5 D5 kp5=>?_⟩;rw [← cE hil] at D5;have g5:H5 l=some (.lst (((List.range i).map λ k=>fh ((xs.drop b).take (k+1))).map V.int)):=by rw [kp5 l nlx nld];exact g4
   have h5:H5 l3=some (.lst ((xs.drop b).map ov)):=by rw [kp5 l3 n3x n3d];exact h4
   have s5:Same H H5:=λ c o e=>by rw [kp5 c (aK e nx) (aK e nd0)];exact s4 c o e
   obtain ⟨⟨dw,e5⟩,ed5⟩:=id D5;have pos:0 < ((xs.drop b).take (i+1)).length:=by rw [be];omega
   have Y:=pV pos (by rw [be];omega);refine ⟨_,rfl,.inl ⟨rfl,_,SqL.of g5⟩,_,rfl,x,dw,_,rfl,e5,rfl,x,d,_,fh ((xs.drop b).take (i+1)),rfl,D5,Y,xO _,λ H6 s6=>?_⟩;refine ⟨l,_,_,rfl,rfl,s6 _ _ g5,by rw [ag,ag,List.length_range];exact a9 (by omega),?_⟩;have g6:=s6 _ _ g5;have nl3':l3≠l:=n3l;refine ⟨_,rfl,λ c o e=>?_,?_,?_,?_⟩
   ·rw [ai (aK e hH1l)];exact s6 _ _ (s5 c o e)
   ·rw [ai nl3'];exact s6 _ _ h5
   ·obtain ⟨⟨du,e6⟩,ed6⟩:=o7 s6 D5;exact ⟨⟨du,by rw [ai nlx.symm];exact e6⟩,by rw [ai nld.symm];exact ed6⟩
   ·rw [af,List.range_succ,aJ,aJ];rfl
  ·rintro σ H4 ⟨v,rfl,s4,h4,D4,g4⟩;refine ⟨_,rfl,q l H4 s4 hH1l ?_⟩;rw [g4,ag,ld];rfl
noncomputable def gR(H:Hp)(l:Addr)(xs:List OI):Prop:=∃ as:List Addr,H l=some (.lst (as.map V.ref))/\as.length=xs.length/\∀ (b:Nat) (a:Addr),as[b]?=some a->H a=some (.lst ((iy xs b).map V.int))
theorem o6{l:Addr}(s:Same H H')(h:gR H l xs):gR H' l xs:=by
 obtain ⟨as,h1,h2,h3⟩:=h;exact ⟨as,s _ _ h1,h2,λ b a e=>s _ _ (h3 b a e)⟩
noncomputable def uV(K:W.Frag):Sp:=λ vs H Q _=>∃ (p:Addr) (xs:List OI),vs=[.ref p]/\SqL K H p (xs.map ov)/\xs.length<=1000/\∀ (l:Addr) (H':Hp),Same H H'->H l=none->gR H' l xs->Q (.ref l) H'
theorem zbA:(["begin", "values"]:List Str).Nodup:=by decide +kernel
theorem zfa:aA ["values"] ["values"] (av nL):=by walk_at "sc"
theorem zct(T:Txt K mg t)(ls:Cal P w K mg base CX0 6 "rooms_from" ["values", "begin"] (vt K))(F:Fun K "block_rooms" "block_rooms" nL f fd):FnOk P w K mg base CX0 7 f fd ["values"] (uV K):=by
 refine F.ok zfa (λ vs H Q E h=>?_) (λ cdv A outer s H vs Q E hr h=>?_)
 ·obtain ⟨p,xs,rfl,_⟩:=h;rfl
 ·obtain ⟨p,xs,rfl,hS,hl,q⟩:=h;have el:(xs.map ov).length=xs.length:=ag _;refine ⟨_,(ao (ay (bX (N:=["begin", "values"]) (fr:=[none,some 0]) ⟨rfl,rfl,rfl,rfl,rfl,rfl⟩ rfl (eX (by rfl) T.d4 (aa (aP (cr K) (by rfl) T.bE PyProof.Rows.Boot.«len» (aa (pv 0) ad)) ad))
    (λ C fp s H=>⟨aR (i:=0) zbA rfl (Or.inl rfl),bz,(ls.pe hr ax (aa (pv 1) (aa (pv 0) ad)))⟩)))),?_⟩
  walk_at "rd"
  refine ⟨gq (λ i acc H'=>Same H H'/\∃ as:List Addr,acc=as.map V.ref/\as.length=i/\∀ (b:Nat) (a:Addr),as[b]?=some a->H' a=some (.lst ((iy xs b).map V.int))) ⟨Same.refl _,[],rfl,rfl,λ b a e=>by cases e⟩
   (λ i acc H' hi hp=>by obtain ⟨_,as,e,h,_⟩:=hp;rw [e,ag];omega) (Nat.le_of_lt (a9 (by omega))) ?_ ?_⟩
  ·rintro i acc H' hi ⟨s1,as,rfl,ha,hr'⟩;have e0:(0+(i:Int))=(i:Int):=Int.zero_add _;refine ⟨Wk.set rfl,tT ?_⟩;rw [e0];refine ⟨_,rfl,_,rfl,p,xs,i,rfl,s1.seq hS,hl,by omega,λ l H2 s2 hln h2=>cw hi ⟨s1.trans s2,as++[l],by rw [aJ];rfl,by simp [ha],λ b a e=>?_⟩⟩;by_cases hb:b < as.length
   ·rw [List.getElem?_append_left hb] at e;exact s2 _ _ (hr' b a e)
   ·rw [List.getElem?_append_right (by omega)] at e;have hbi:b - as.length=0:=by
     have:=(al_gs.mp e).1;simp at this;omega
    rw [hbi] at e;cases e;rw [show b=i by omega];exact h2
  ·rintro acc H' ⟨s1,as,rfl,ha,hr'⟩ l hl2;refine q l _ (az s1 hl2) (s1.free hl2) ⟨as,af,by omega,λ b a e=>?_⟩;have:=hr' b a e;rw [ai (aK this hl2)];exact this
noncomputable def pJ(K:W.Frag):Sp:=λ vs H Q _=>∃ (l:Addr) (xs:List OI) (b e:Nat),vs=[.ref l,.int b,.int e]/\gR H l xs/\b < e/\e<=xs.length/\Q (.int (lr xs b e)) H
theorem zfw:aA ["rooms", "begin", "end"] ["rooms", "begin", "end"] (av oR):=by walk_at "sc"
theorem zdh(F:Fun K "room_between" "room_between" oR f fd):FnOk P w K mg base CX0 1 f fd ["rooms", "begin", "end"] (pJ K):=by
 refine F.ok zfw (λ vs H Q E h=>?_) (λ cdv A outer s H vs Q E hr h=>?_)
 ·obtain ⟨l,xs,b,e,rfl,_⟩:=h;rfl
 ·obtain ⟨l,xs,b,e,rfl,⟨as,h1,h2,h3⟩,hb,he,q⟩:=h;refine ⟨_,(ao (ay (aN (bK K) (aN (bK K) (pv 0) (pv 1) (λ _ _=>rfl)) (aj bR (aj bR (pv 2) (pv 1)) ae) (λ _ _=>rfl)))),?_⟩;have hb':b < as.length:=by omega
  have ea:as[b]?=some as[b]:=aH hb';have a1:atI (as.map V.ref) (b:Int)=some (.ref as[b]):=dG (by rw [aL,ea];rfl);have a2:atI ((iy xs b).map V.int) ((e:Int) - b - 1)=some (.int (lr xs b e)):=by
   refine bW (by omega) ?_;rw [show ((e:Int) - b - 1).toNat=e - b - 1 by omega,aL,zeQ hb he];rfl
  have h4:=h3 b _ ea;exact ⟨_,rfl,_,rfl,l,_,_,_,rfl,rfl,SqL.of h1,a1,_,rfl,_,rfl,_,_,rfl,rfl,_,_,rfl,rfl,_,_,_,_,rfl,rfl,SqL.of h4,a2,q⟩
noncomputable def lb(xs:List OI)(e:Nat):Nat:=((List.range e).find? λ b=>decide (pr xs b+lr xs b e=pr xs e)).getD 0
theorem yR{p:Nat->Bool}:∀ (n b:Nat),b < n->p b=true->(∀ c,c < b->p c=false)->(List.range n).find? p=some b:=by
 intro n;induction n with
 | zero=>intro b h;omega
 | succ n ih=>
  intro b h hp hn;rw [List.range_succ,List.find?_append];by_cases hb:b < n
  ·rw [ih b hb hp hn];rfl
  ·have e:b=n:=by omega
   subst e;have:(List.range b).find? p=none:=by
    rw [List.find?_eq_none];intro c hc;rw [hn c (List.mem_range.mp hc)];exact bi
   rw [this];simp [hp]
theorem zau(h:b < e)(hh:pr xs b+lr xs b e=pr xs e)(hn:∀ c,c < b->pr xs c+lr xs c e≠pr xs e):lb xs e=b:=by
 unfold lb;rw [yR e b h (aO hh) λ c hc=>aM (hn c hc)];rfl
theorem iX(xs:List OI)(h:0 < e):lb xs e < e:=by
 obtain ⟨b,hb,hh⟩:=t9 xs h;unfold lb;cases q:(List.range e).find? λ b=>decide (pr xs b+lr xs b e=pr xs e) with
 | none=>exact h
 | some c=>exact List.mem_range.mp (List.mem_of_find?_eq_some q)
noncomputable def eP(xs:List OI):Nat->Nat->List Nat
 | 0,_=>[]
 | f+1,e=>if e=0 then [] else eP xs f (lb xs e)++[e]
theorem rE(xs:List OI):∀ f e,e<=f->eP xs (f+1) e=eP xs f e
 | 0,e,h=>by
  have:e=0:=by omega
  subst this;rfl
 | f+1,e,h=>by
  rw [eP];by_cases h0:e=0
  ·subst h0;simp [eP]
  ·have:=iX xs (e:=e) (by omega);rw [if_neg h0,rE xs f _ (by omega)]
   conv=>rhs;rw [eP]
   rw [if_neg h0]
theorem yw(xs:List OI){f:Nat}(h:e<=f):eP xs f e=eP xs e e:=by
 obtain ⟨k,rfl⟩:=Nat.le.dest h;induction k with
 | zero=>rfl
 | succ k ih=>rw [show e+(k+1)=(e+k)+1 by omega,rE xs _ _ (by omega),ih (by omega)]
noncomputable def cQ(xs:List OI)(e:Nat):List Nat:=eP xs e e
theorem rF(xs:List OI):cQ xs 0=[]:=rfl
theorem lZ(xs:List OI)(h:0 < e):cQ xs e=cQ xs (lb xs e)++[e]:=by
 obtain ⟨k,rfl⟩:∃ k,e=k+1:=⟨e - 1,by omega⟩
 have:=iX xs h;show (if k+1=0 then [] else eP xs k (lb xs (k+1))++[k+1])=_;rw [if_neg (by omega),yw xs (show lb xs (k+1)<=k by omega)];rfl
theorem lY(xs:List OI):∀ e,(cQ xs e).length<=e:=by
 intro e;induction e using Nat.strongRecOn with
 | ind e ih=>
  by_cases h:e=0
  ·subst h;simp [rF]
  ·have hl:=iX xs (e:=e) (by omega);rw [lZ xs (by omega),bc,dF];have:=ih _ hl;omega
noncomputable def sg(ss:List Int)(k:Nat):Int:=ss.getD k 0
noncomputable def Ris(n:Nat):Nat->List Nat->Prop
 | b,[]=>b=n
 | b,e::r=>b < e/\Ris n e r
theorem Ris.le{n:Nat}:∀ {b:Nat} {l:List Nat},Ris n b l->b<=n
 | _,[],h=>Nat.le_of_eq h
 | _,_::_,h=>Nat.le_trans (Nat.le_of_lt h.1) h.2.le
theorem Ris.at{n:Nat}:∀ {b:Nat} {l:List Nat},Ris n b l->∀ i,i < l.length->(b::l).getD i 0 < l.getD i 0/\l.getD i 0<=n
 | b,e::r,h,0,_=>⟨h.1,h.2.le⟩
 | b,e::r,h,i+1,hi=>by
  have:=Ris.at h.2 i (by simpa using hi);simpa [List.getD] using this
theorem dec_int(a b:Int):decide (V.int a=V.int b)=decide (a=b):=by
 by_cases h:a=b
 ·subst h;simp
 ·rw [aM h,aM λ z=>h (V.int.inj z)]
theorem mY(h:k<=n):atI ((prL xs n).map V.int) (k:Int)=some (.int (pr xs k)):=
 dG (by rw [aL,mW xs n k h];rfl)
noncomputable def vj:Sp:=λ vs H Q _=>∃ (l:Addr) (xs:List OI),vs=[.ref l]/\gR H l xs/\xs.length<=1000/\∀ (f:Addr) (H':Hp),Same H H'->H f=none->H' f=some (.lst ((prL xs xs.length).map V.int))->Q (.ref f) H'
theorem zbM:(["begin", "found", "rooms", "end"]:List Str).Nodup:=by decide +kernel
theorem sc_least_prices:aA ["rooms", "found", "end"] ["rooms"] (av oB):=by walk_at "sc"
theorem zcW(T:Txt K mg t)(gO:Cal P w K mg base CX0 1 "room_between" ["rooms", "begin", "end"] (pJ K))(F:Fun K "least_prices" "least_prices" oB f fd):FnOk P w K mg base CX0 3 f fd ["rooms"] vj:=by
 refine F.ok sc_least_prices (λ vs H Q E h=>?_) (λ cdv A outer s H vs Q E hr h=>?_)
 ·obtain ⟨l,xs,rfl,_⟩:=h;rfl
 ·obtain ⟨l,xs,rfl,hR,hl,q⟩:=h;refine ⟨_,(ak (aE (i:=1) sc_least_prices.nd rfl (Or.inr rfl) (bS (aa ae ad)))
  (ak (fK PassesOwn.never rfl (zd3 (by rfl) T.d4 (aa ae (aa (aj a8 (aP (cr K) (by rfl) T.bE PyProof.Rows.Boot.«len» (aa (pv 0) ad)) ae) ad))) (aR (i:=2) sc_least_prices.nd rfl (Or.inr rfl))
   (ao (bV (cD K PySem.F.plainAttrs_list PySem.F.slot_list_append PySem.F.type_list_append im (pv 1) (aa (aP (re K rfl) (by rfl) T.i6 PyProof.Rows.Boot.«min» (aa (bX (N:=["begin", "found", "rooms", "end"]) (fr:=[none,some 1,some 0,some 2]) ⟨rfl,rfl,rfl,rfl,rfl,rfl⟩ rfl (eX (by rfl) T.d4 (aa (pv 2) ad))
    (λ C fp s H=>⟨aR (i:=0) zbM rfl (Or.inl rfl),bz,(aj a8 (aN (bK K) (pv 1) (pv 0) (λ _ _=>rfl)) (gO.pe hr ax (aa (pv 2) (aa (pv 0) (aa (pv 3) ad)))))⟩)) ad)) ad)))))
  (ao (ay (pv 1))))),?_⟩
  walk_at "rd"
  intro f hf;have s0:Same H (upd H f (.lst [.int 0])):=Same.new hf;obtain ⟨as,ra,rl,_⟩:=o6 s0 hR;have la:(as.map V.ref).length=xs.length:=by rw [ag,rl]
  refine ⟨_,rfl,l,_,rfl,.inl (SqL.of ra),_,_,rfl,rfl,1,_,rfl,⟨by decide,by decide,by omega,by omega⟩,?_⟩;have en:((((as.map V.ref).length:Int)+1) - 1).toNat=xs.length:=by omega
  rw [en];refine ⟨jW (λ i σ H'=>∃ v:Option V,σ=[some (.ref l),some (.ref f),v]/\Same H H'/\H' f=some (.lst ((prL xs i).map V.int))) ⟨none,rfl,s0,af⟩ ?_ ?_⟩
  ·rintro i σ H1 hi ⟨v,rfl,s1,h1⟩;have e1:1+(i:Int)=((i+1:Nat):Int):=by omega
   rw [e1];refine ⟨_,rfl,.inl ⟨rfl,_,SqL.of h1⟩,_,rfl,_,rfl,by omega,by omega,?_⟩;refine ⟨gq (λ j acc H'=>Same H1 H'/\acc=((List.range j).map λ b=>pr xs b+lr xs b (i+1)).map V.int) ⟨Same.refl _,rfl⟩ (λ j acc H' hj hp=>by rw [hp.2,ag,ag,List.length_range];omega) (Nat.le_of_lt (small1000' (by omega))) ?_ ?_⟩
   ·rintro j acc H2 hj ⟨s2,rfl⟩;have e0:(0+(j:Int))=(j:Int):=Int.zero_add _;rw [e0];have hj':j<=i:=by omega
    refine ⟨Wk.set rfl,tT ⟨_,rfl,_,rfl,f,_,_,_,rfl,rfl,SqL.of (s2 _ _ h1),mY hj',_,rfl,_,rfl,_,rfl,l,xs,j,i+1,rfl,o6 (s1.trans s2) hR,by omega,by omega,_,_,rfl,rfl,cw hj ⟨s2,?_⟩⟩⟩;rw [List.range_succ,aJ,aJ];rfl
   ·rintro acc H2 ⟨s2,rfl⟩ l2 hl2;have em:(((i+1:Nat):Int)).toNat=i+1:=by omega
    rw [em];have hne:((List.range (i+1)).map λ b=>pr xs b+lr xs b (i+1))≠[]:=by simp
    have h2:=s2 _ _ h1;have nf:f≠l2:=aK h2 hl2;refine ⟨l2,_,pr xs (i+1),rfl,SqL.of af,by rw [kl];exact sT hne,λ a ha=>by rw [kl];exact za8 a ha,?_⟩;refine ⟨f,_,_,rfl,rfl,by rw [ai nf];exact h2,by rw [ag,je];exact small1000' (by omega),?_⟩;refine ⟨_,rfl,λ c o e=>?_,?_⟩
    ·rw [ai (aK e hf),ai (aK (s2 _ _ (s1 c o e)) hl2)];exact s2 _ _ (s1 c o e)
    ·rw [af];have:prL xs (i+1)=prL xs i++[pr xs (i+1)]:=by
      rw [kl];show prL xs i++[_]=_
      congr 3
      apply List.map_congr_left;intro b hb;rw [t5 (by have:=List.mem_range.mp hb;omega)]
     rw [this,aJ];rfl
  ·rintro σ H1 ⟨v,rfl,s1,h1⟩;exact ⟨_,rfl,q f H1 s1 hf h1⟩
noncomputable def vm(K:W.Frag):Sp:=λ vs H Q _=>∃ (l f:Addr) (xs:List OI) (e:Nat),vs=[.ref l,.ref f,.int e]/\gR H l xs/\SqL K H f ((prL xs xs.length).map V.int)/\0 < e/\e<=xs.length/\Q (.int (lb xs e)) H
theorem sc_longest_begin:aA ["rooms", "found", "end", "begin"] ["rooms", "found", "end"] (av oC):=by walk_at "sc"
theorem zcY(T:Txt K mg t)(gO:Cal P w K mg base CX0 1 "room_between" ["rooms", "begin", "end"] (pJ K))(F:Fun K "longest_begin" "longest_begin" oC f fd):FnOk P w K mg base CX0 3 f fd ["rooms", "found", "end"] (vm K):=by
 refine F.ok sc_longest_begin (λ vs H Q E h=>?_) (λ cdv A outer s H vs Q E hr h=>?_)
 ·obtain ⟨l,f,xs,e,rfl,_⟩:=h;rfl
 ·obtain ⟨l,f,xs,e,rfl,hR,hS,h0,he,q⟩:=h;refine ⟨_,(ak (aE (i:=3) sc_longest_begin.nd rfl (Or.inl rfl) ae)
  (ak (km PassesOwn.never (aG fD (aj a8 (aN (bK K) (pv 1) (pv 3) (λ _ _=>rfl)) (gO.pe hr ax (aa (pv 0) (aa (pv 3) (aa (pv 2) ad))))) (aN (bK K) (pv 1) (pv 2) (λ _ _=>rfl)) (aF _))
   (ao (ua (i:=3) sc_longest_begin.nd rfl (Or.inl rfl) ae sy)))
  (ao (ay (pv 3))))),?_⟩
  obtain ⟨b0,hb0,hh0⟩:=t9 xs h0;refine kM (λ σ H'=>H'=H/\∃ b:Nat,σ=[some (.ref l),some (.ref f),some (.int e),some (.int b)]/\b < e/\∀ c,c < b->pr xs c+lr xs c e≠pr xs e) (λ σ _=>match σ with | [_,_,_,some (.int b)]=>e - b.toNat | _=>0)
   ⟨rfl,0,rfl,h0,λ c hc=>by omega⟩ ?_
  rintro m σ H' rfl ⟨rfl,b,rfl,hb,hn⟩;refine ⟨_,rfl,_,rfl,f,_,_,_,rfl,rfl,hS,mY (by omega),_,rfl,_,rfl,_,rfl,l,xs,b,e,rfl,hR,hb,he,_,_,rfl,rfl,_,rfl,_,rfl,f,_,_,_,rfl,rfl,hS,mY he,rfl,_,rfl,?_⟩;rw [dec_int];by_cases c:pr xs b+lr xs b e=pr xs e
  ·rw [aO c];refine ap ⟨_,rfl,?_⟩;rw [zau hb c hn] at q;exact q
  ·rw [aM c];refine aw ⟨_,wN,?_⟩;refine ⟨_,rfl,_,_,rfl,rfl,⟨rfl,b+1,by simp,?_,?_⟩,?_⟩
   ·have:b < b0:=by
     rcases Nat.lt_trichotomy b b0 with h | h | h
     ·exact h
     ·subst h;exact absurd hh0 c
     ·exact absurd hh0 (hn b0 h)
    omega
   ·intro d hd;by_cases e2:d=b
    ·subst e2;exact c
    ·exact hn d (by omega)
   ·show e - ((b:Int)+1).toNat < e - (b:Int).toNat;omega
noncomputable def u9(K:W.Frag)(t:Ad):Sp:=λ vs H Q E=>∃ (p:Addr) (xs:List OI),vs=[.ref p]/\SqL K H p (xs.map ov)/\xs.length<=1000/\
 (okC xs=true->∀ (f:Addr) (H':Hp),Same H H'->H f=none->H' f=some (.lst (((cQ xs xs.length).map λ (k:Nat)=>(k:Int)).map V.int))->Q (.ref f) H')/\(okC xs=false->∀ H',Same H H'->E (.ref t.de) none H')
theorem sc_cuts:aA ["values", "rooms", "found", "ends", "end"] ["values"] (av nZ):=by walk_at "sc"
theorem zcE(T:Txt K mg t)(kW:Cal P w K mg base (CXr P w) 4 "check_column" ["values"] (uY K t))(kT:Cal P w K mg base CX0 7 "block_rooms" ["values"] (uV K))(lg:Cal P w K mg base CX0 3 "least_prices" ["rooms"] vj)(lh:Cal P w K mg base CX0 3 "longest_begin" ["rooms", "found", "end"] (vm K))(F:Fun K "cuts" "cuts" nZ f fd):
  FnOk P w K mg base (CXr P w) 8 f fd ["values"] (u9 K t):=by
 refine F.okX sc_cuts (λ vs H Q E h=>?_) (λ cdv A outer s H vs Q E hr h=>?_)
 ·obtain ⟨p,xs,rfl,_⟩:=h;rfl
 ·obtain ⟨p,xs,rfl,hS,hl,k1,k2⟩:=h;refine ⟨_,(ak (bV (kW.pe hr cV (aa (pv 0) ad)))
  (ak (aE (i:=1) sc_cuts.nd rfl (Or.inl rfl) (kT.pe hr ax (aa (pv 0) ad)))
  (ak (aE (i:=2) sc_cuts.nd rfl (Or.inl rfl) (lg.pe hr ax (aa (pv 1) ad)))
  (ak (aE (i:=3) sc_cuts.nd rfl (Or.inl rfl) (bS ad))
  (ak (aE (i:=4) sc_cuts.nd rfl (Or.inl rfl) (aP (cr K) (by rfl) T.bE PyProof.Rows.Boot.«len» (aa (pv 0) ad)))
  (ak (PS.nox (km PassesOwn.never (aG dh (pv 4) ae (aF _))
   (ak (bV (cD K PySem.F.plainAttrs_list PySem.F.slot_list_append PySem.F.type_list_append im (pv 3) (aa (pv 4) ad)))
  (ao (aE (i:=4) sc_cuts.nd rfl (Or.inl rfl) (lh.pe hr ax (aa (pv 1) (aa (pv 2) (aa (pv 4) ad)))))))))
  (ao (ay (zdY K rfl (by rfl) T.ka (by rfl) T.zca (pv 3)))))))))),?_⟩
  refine ⟨_,rfl,p,xs,rfl,hS,hl,λ ok H1 s1=>?_,k2⟩;refine ⟨_,rfl,p,xs,rfl,s1.seq hS,hl,λ l H2 s2 hn2 R2=>?_⟩;refine ⟨_,rfl,l,xs,rfl,R2,hl,λ f H3 s3 hn3 h3=>?_⟩;have t3:=(s1.trans s2).trans s3
  walk_at "rd"
  intro c hc;have s4:Same H3 (upd H3 c (.lst [])):=Same.new hc;have t4:=t3.trans s4;have hS4:=t4.seq hS
  walk_at "rd"
  rw [ag];refine kM (λ σ H'=>∃ (e:Nat) (es:List Nat),σ=[some (.ref p),some (.ref l),some (.ref f),some (.ref c),some (.int e)]/\Same H3 H'/\H' c=some (.lst ((es.map λ (k:Nat)=>(k:Int)).map V.int))/\e<=xs.length/\es.length+e<=xs.length/\cQ xs xs.length=cQ xs e++es.reverse)
   (λ σ _=>match σ with | [_,_,_,_,some (.int e)]=>e.toNat | _=>0) ⟨xs.length,[],rfl,s4,af,Nat.le_refl _,by simp,by simp⟩ ?_
  rintro m σ H5 hm ⟨e,es,rfl,s5,h5,he,hes,hcu⟩;have hm:m=e:=by rw [hm];simp
  walk_at "rd"
  by_cases c0:0 < e
  ·rw [aO (show (0:Int) < (e:Int) by omega)];refine aw ⟨_,wN,?_⟩;have hlt:=iX xs c0;refine ⟨_,rfl,.inl ⟨rfl,_,SqL.of h5⟩,_,rfl,c,_,_,rfl,rfl,h5,by rw [ag,ag];exact a9 (by omega),?_⟩;have s6:Same H3 (upd H5 c (.lst ((es.map λ (k:Nat)=>(k:Int)).map V.int++[.int e]))):=λ b o q=>by
    rw [ai (aK q hc)];exact s5 b o q
   have h6:(upd H5 c (.lst ((es.map λ (k:Nat)=>(k:Int)).map V.int++[.int e]))) c=some (.lst ((es.map λ (k:Nat)=>(k:Int)).map V.int++[.int e])):=af;generalize upd H5 c (.lst ((es.map λ (k:Nat)=>(k:Int)).map V.int++[.int e]))=H6 at s6 h6;refine ⟨_,rfl,_,rfl,_,rfl,l,f,xs,e,rfl,o6 (s3.trans s6) R2,SqL.of (s6 _ _ h3),c0,he,⟨lb xs e,es++[e],rfl,s6,?_,by omega,by rw [bc,dF];omega,?_⟩,?_⟩
   ·rw [h6,aJ,aJ];rfl
   ·rw [hcu,lZ xs c0,List.reverse_append];simp
   ·show (lb xs e:Int).toNat < m;omega
  ·rw [aM (show ¬ (0:Int) < (e:Int) by omega)];refine ap ?_;have e0:e=0:=by omega
   subst e0;rw [rF,List.nil_append] at hcu;refine ⟨_,rfl,c,_,rfl,SqL.of h5,λ r hr'=>?_⟩;refine k1 ok r _ (az (t3.trans s5) hr') ((t3.trans s5).free hr') ?_;rw [af,hcu,List.map_reverse,List.map_reverse]
theorem yq(xs:List OI)(h:b<=e)(he:e<=xs.length):bw (xs.map ov) (some (b:Int)) (some (e:Int))=((xs.drop b).take (e - b)).map ov:=by
 unfold bw;rw [HT.sIx_nat,HT.sIx_nat,ag,Nat.min_eq_left (show b<=xs.length by omega),Nat.min_eq_left he,← List.map_drop,← List.map_take]
noncomputable def Rs:Nat->List Nat->Prop
 | _,[]=>True
 | b,e::r=>b < e/\Rs e r
theorem Rs.snoc:∀ {l:List Nat} {b k:Nat},Rs b l->b < k->(∀ d∈l,d < k)->Rs b (l++[k])
 | [],b,k,_,hb,_=>⟨hb,trivial⟩
 | e::r,b,k,h,hb,hl=>⟨h.1,Rs.snoc h.2 (hl e b9) λ d hd=>hl d (bp _ hd)⟩
theorem Rs.ris:∀ {l:List Nat} {b n:Nat},Rs b l->b < n->(∀ d∈l,d < n)->Ris n b (l++[n])
 | [],b,n,_,hb,_=>⟨hb,rfl⟩
 | e::r,b,n,h,hb,hl=>⟨h.1,Rs.ris h.2 (hl e b9) λ d hd=>hl d (bp _ hd)⟩
theorem zcg(h1:xs.length<=64)(h2:xs.all okV=true):okC xs=true:=by
 unfold okC;rw [aO h1,h2];rfl
noncomputable abbrev fz(ds:List Nat):List V:=(ds.map λ (k:Nat)=>(k:Int)).map V.int
noncomputable def dH(n k:Nat):Nat:=if n / 2 ^ k % 2=1 then 49 else 48
noncomputable def bq(n:Nat):Nat->List Nat
 | 0=>[]
 | w+1=>dH n w::bq n w
theorem dW(n:Nat):∀ w,(bq n w).length=w
 | 0=>rfl
 | w+1=>by rw [bq,List.length_cons,dW n w]
theorem qI(n:Nat):∀ w,(List.range w).map (λ j=>dH n (w - 1 - j))=bq n w
 | 0=>rfl
 | w+1=>by
  rw [List.range_succ_eq_map,List.map_cons,bq,List.map_map,← qI n w]
  congr 1
  apply List.map_congr_left;intro j _;show dH n (w+1 - 1 - (j+1))=dH n (w - 1 - j)
  congr 1
  omega
noncomputable def fZ(c:Nat):Str:=⟨#[c]⟩
noncomputable def bu(n w:Nat):Str:=⟨(bq n w).toArray⟩
theorem bP(n w:Nat):(bu n w).length=w:=by
 show (bq n w).toArray.size=w;rw [aW,dW]
theorem sP:("1" : Str)=fZ 49:=by decide +kernel
theorem sO:("0" : Str)=fZ 48:=by decide +kernel
theorem yU(l:List Nat):(l.map λ c=>[c]).flatten=l:=by
 induction l with
 | nil=>rfl
 | cons a r ih=>rw [List.map_cons,List.flatten_cons,ih];rfl
theorem zm(l:List Nat):ba (l.map fZ)=⟨l.toArray⟩:=by
 apply iB;rw [dZ,List.map_map];exact yU l
theorem zfT(l:List Nat):((l.map fZ).map (·.length)).sum=l.length:=by
 induction l with
 | nil=>rfl
 | cons a r ih=>rw [List.map_cons,List.map_cons,List.sum_cons,ih,List.length_cons];exact Nat.add_comm _ _
theorem xp{a:Int}(h:0<=a):Builtin.bitAnd a 1=((a.toNat % 2:Nat):Int):=by
 rw [PyProof.Rows.bitAnd_pp h (by decide)];show ((a.toNat &&& 1:Nat):Int)=_;rw [Nat.and_one_is_mod]
section
local macro_rules | `(tactic| walk_at "rd")=>`(tactic| (repeat (first | (apply Exists.intro) | (apply And.intro;(first | exact rfl | assumption | exact Or.inl (by assumption) | exact SqL.of (by assumption) | exact Or.inl (SqL.of (by assumption)) | exact ⟨_,by assumption⟩ | exact ⟨_,SqL.of (by assumption)⟩ | exact ⟨_,SqT.of (by assumption)⟩ | exact Or.inl ⟨rfl,_,SqL.of (by assumption)⟩ | omega | exact ⟨by decide,by decide⟩ | exact Or.inl ⟨by decide,by decide⟩ | exact Or.inr ⟨by decide,by decide⟩ | (show (0:Int) < _;omega) | exact aB rfl | exact f9 _ _)))))
noncomputable def iz:Sp:=λ vs H Q _=>∃ n m:Nat,vs=[.int n,.int m]/\m<=1000/\∀ H',Same H H'->Q (.str (bu n m)) H'
theorem zbG:(["place", "number"]:List Str).Nodup:=by decide +kernel
theorem zfk:aA ["number", "width"] ["number", "width"] (av og):=by walk_at "sc"
theorem zcK(T:Txt K mg t)(F:Fun K "in_bits" "in_bits" og f fd):FnOk P w K mg base CX0 1 f fd ["number", "width"] iz:=by
 refine F.ok zfk (λ vs H Q E h=>?_) (λ cdv A outer s H vs Q E hr h=>?_)
 ·obtain ⟨n,m,rfl,_⟩:=h;rfl
 ·obtain ⟨n,m,rfl,hm,q⟩:=h;refine ⟨_,(ao (ay (cD K PySem.F.plainAttrs_str PySem.F.slot_str_join PySem.F.type_str_join (io K) aD (aa (bX (N:=["place", "number"]) (fr:=[none,some 0]) ⟨rfl,rfl,rfl,rfl,rfl,rfl⟩ rfl (zd4 (by rfl) T.d4 (aa (aj bR (pv 1) ae) (aa (dl dm ae) (aa (dl dm ae) ad))))
    (λ C fp s H=>⟨aR (i:=0) zbG rfl (Or.inl rfl),bz,(dj (zen K (aj zdz (aj zdF (pv 1) (pv 0)) ae)) aD aD)⟩)) ad)))),?_⟩
  walk_at "rd"
  have en:((m:Int) - 1 - -1).toNat=m:=by omega
  rw [en];refine ⟨ym (λ i acc H'=>Same H H'/\acc=((List.range i).map λ j=>V.str (fZ (dH n (m - 1 - j))))) ⟨Same.refl _,rfl⟩
   (λ i acc H' hi hp=>by rw [hp.2,ag,List.length_range];omega) (Nat.le_of_lt (a9 hm)) ?_ ?_⟩
  ·rintro i acc H' hi ⟨s1,rfl⟩;refine ⟨Wk.set rfl,tT ?_⟩;have e1:((m:Int) - 1 - i).toNat=m - 1 - i:=by omega
   have e2:((n:Int) / 2 ^ (m - 1 - i))=((n / 2 ^ (m - 1 - i):Nat):Int):=by rw [Int.natCast_ediv,Int.natCast_pow];rfl
   have e3:Builtin.bitAnd ((n:Int) / 2 ^ ((m:Int) - 1 - i).toNat) 1=((n / 2 ^ (m - 1 - i) % 2:Nat):Int):=by
    rw [e1,e2,xp (Int.natCast_nonneg _),Int.toNat_natCast]
   refine ⟨_,rfl,_,rfl,_,_,rfl,rfl,by omega,_,_,rfl,rfl,_,rfl,?_⟩;rw [e3];by_cases hb:n / 2 ^ (m - 1 - i) % 2=1
   ·have eb:dH n (m - 1 - i)=49:=if_pos hb;rw [hb];refine aw (cw hi ⟨s1,?_⟩);rw [List.range_succ,aJ,List.map_singleton,eb,sP]
   ·have eb:dH n (m - 1 - i)=48:=if_neg hb;rw [show n / 2 ^ (m - 1 - i) % 2=0 by omega];refine ap (cw hi ⟨s1,?_⟩);rw [List.range_succ,aJ,List.map_singleton,eb,sO]
  ·rintro acc H' ⟨s1,rfl⟩ l hl2;have e1:(List.range m).map (λ j=>V.str (fZ (dH n (m - 1 - j))))=((bq n m).map fZ).map V.str:=by
    rw [← qI,List.map_map,List.map_map];rfl
   rw [e1];refine ⟨"", l,(bq n m).map fZ,rfl,rfl,SqL.of af,?_,?_⟩
   ·rw [zfT,dW,ag,dW];show m+m * 0<=16777216;omega
   ·rw [ie,zm];exact q _ (az s1 hl2)
noncomputable def eO:OI->Nat
 | .none=>0
 | .some i=>(i+4000001).toNat
noncomputable def bJ(o:OI):Str:=bu (eO o) 24
noncomputable def jp:Sp:=λ vs H Q _=>∃ o:OI,vs=[ov o]/\okV o=true/\∀ H',Same H H'->Q (.str (bJ o)) H'
theorem zfB:aA ["value"] ["value"] (av o4):=by walk_at "sc"
theorem zdx(T:Txt K mg t)(cF:Cal P w K mg base CX0 1 "in_bits" ["number", "width"] iz)(F:Fun K "value_bits" "value_bits" o4 f fd):FnOk P w K mg base CX0 3 f fd ["value"] jp:=by
 refine F.ok zfB (λ vs H Q E h=>?_) (λ cdv A outer s H vs Q E hr h=>?_)
 ·obtain ⟨o,rfl,_⟩:=h;rfl
 ·obtain ⟨o,rfl,ho,q⟩:=h;refine ⟨_,(ao (ay (cF.pe hr ax (aa (dj (aG d5 (pv 0) bN (aF _)) ae (aj a8 (pv 0) (bf T.jZ))) (aa (bf T.fq) ad))))),?_⟩;refine ⟨_,rfl,rfl,_,rfl,?_⟩;cases o with
  | none=>exact aw ⟨0,24,rfl,by decide,q⟩
  | some i=>
   have hi : -4000000<=i/\i<=4000000:=of_decide_eq_true ho;refine ap ⟨_,rfl,_,_,rfl,rfl,(i+4000001).toNat,24,?_,by decide,q⟩;rw [Int.toNat_of_nonneg (by omega)];rfl
noncomputable def c8(xs:List OI):Str:=ba (xs.map bJ)
theorem mV(xs:List OI):((xs.map bJ).map (·.length)).sum=24 * xs.length:=by
 induction xs with
 | nil=>rfl
 | cons a r ih=>
  rw [List.map_cons,List.map_cons,List.sum_cons,ih,List.length_cons];have:(bJ a).length=24:=bP _ _;omega
noncomputable def pH(K:W.Frag):Sp:=λ vs H Q _=>∃ (p:Addr) (xs:List OI),vs=[.ref p]/\SqL K H p (xs.map ov)/\xs.length<=1000/\xs.all okV=true/\∀ H',Same H H'->Q (.str (c8 xs)) H'
theorem zbR:(["value"]:List Str).Nodup:=by decide +kernel
theorem zft:aA ["values"] ["values"] (av oH):=by walk_at "sc"
theorem zc8(T:Txt K mg t)(dP:Cal P w K mg base CX0 3 "value_bits" ["value"] jp)(F:Fun K "plain_bits" "plain_bits" oH f fd):FnOk P w K mg base CX0 4 f fd ["values"] (pH K):=by
 refine F.ok zft (λ vs H Q E h=>?_) (λ cdv A outer s H vs Q E hr h=>?_)
 ·obtain ⟨p,xs,rfl,_⟩:=h;rfl
 ·obtain ⟨p,xs,rfl,hS,hl,hok,q⟩:=h;refine ⟨_,(ao (ay (cD K PySem.F.plainAttrs_str PySem.F.slot_str_join PySem.F.type_str_join (io K) aD (aa (bX (N:=["value"]) (fr:=[none]) ⟨rfl,rfl,rfl,rfl,rfl,rfl⟩ rfl (bY (pv 0))
    (λ C fp s H=>⟨aR (i:=0) zbR rfl (Or.inl rfl),bz,(dP.pe hr ax (aa (pv 0) ad))⟩)) ad)))),?_⟩
  walk_at "rd"
  refine ⟨cB (xs:=xs.map ov) (λ i acc H'=>Same H H'/\acc=((xs.take i).map λ o=>V.str (bJ o))) ⟨Same.refl _,rfl⟩ ?_ ?_ ?_ ?_⟩
  ·rintro i acc H' hi ⟨s1,rfl⟩;refine ⟨s1.seq hS,?_⟩;rw [ag,be];omega
  ·rw [ag];exact Nat.le_of_lt (a9 hl)
  ·rintro i x acc H' hx hlt ⟨s1,rfl⟩;rw [ag] at hlt;have ex:xs[i]?=some xs[i]:=by simp [hlt]
   rw [aL,ex] at hx;cases hx;refine ⟨Wk.set rfl,tT ⟨_,rfl,xs[i],rfl,List.all_eq_true.mp hok _ (List.getElem_mem hlt),λ H2 s2=>cw (by rw [ag];exact hlt) ⟨s1.trans s2,?_⟩⟩⟩;rw [List.take_add_one,ex,aJ];rfl
  ·rintro acc H' ⟨s1,rfl⟩ l hl2;have e1:(xs.take (xs.map ov).length).map (λ o=>V.str (bJ o))=(xs.map bJ).map V.str:=by
    rw [ag,aX,List.map_map];rfl
   rw [e1];refine ⟨"", l,xs.map bJ,rfl,rfl,SqL.of af,?_,?_⟩
   ·rw [mV];show 24 * xs.length+_ * 0<=16777216;omega
   ·rw [ie];exact q _ (az s1 hl2)
end
noncomputable def bb(ns:List Int):Int:=(c7 (0::ns)).getD 0
theorem zgz(h0:∀ a∈ns,0<=a)(h1:M∈ns)(h2:∀ a∈ns,a<=M):bb ns=M:=by
 have e:c7 (0::ns)=some M:=za0 (bp _ h1) λ i hi=>by
  rcases al_mc.mp hi with rfl | hi
  ·exact h0 M h1
  ·exact h2 i hi
 unfold bb;rw [e];rfl
theorem mE:∀ {l:List Int},l≠[]->∃ m,c7 l=some m:=by
 intro l h;cases l with
 | nil=>exact absurd rfl h
 | cons a r=>exact ⟨_,rfl⟩
theorem zgx(ns:List Int):bb ns∈0::ns:=by
 obtain ⟨m,e⟩:=mE (l:=0::ns) (by simp);have:bb ns=m:=by unfold bb;rw [e];rfl
 rw [this];exact j7 e
theorem kK{k:Int}(hk:0 < k)(h:∀ n∈ns,0<=n/\n < k):0<=bb ns/\bb ns < k:=by
 rcases al_mc.mp (zgx ns) with e | e
 ·rw [e];exact ⟨Int.le_refl _,hk⟩
 ·exact h _ e
theorem gy(h:n < 2 ^ k):aI n<=k:=by
 rw [mK];by_cases e:n=0
 ·rw [if_pos e];exact Nat.zero_le _
 ·rw [if_neg e];exact (Nat.log2_lt e).mpr h
theorem gD:1000000<=sizeLine:=by decide +kernel
theorem gg{α:Type}{f:α->Str}{k:Nat}:∀ {l:List α},(∀ x∈l,(f x).length=k)->((l.map f).map (·.length)).sum=k * l.length
 | [],_=>rfl
 | a::r,h=>by
  rw [List.map_cons,List.map_cons,List.sum_cons,gg (l:=r) λ x hx=>h x (bp _ hx),h a (b9 ..),List.length_cons,Nat.mul_succ];exact Nat.add_comm _ _
theorem cy(a b:Str):(a++b).length=a.length+b.length:=by
 show (a++b).cps.size=a.cps.size+b.cps.size;rw [← Array.length_toList,cZ,bc,Array.length_toList,Array.length_toList]
theorem zez(hS:SqL K H p (ns.map V.int))(h0:∀ a∈ns,0<=a)(q:Q (.int (bb ns)) H):um K [.ref p] (.int 0) H Q:=
 ⟨p,ns,rfl,hS,λ e=>by subst e;exact q,λ M h1 h2=>by rw [← zgz h0 h1 h2];exact q⟩
section
local macro_rules | `(tactic| walk_at "rd")=>`(tactic| (repeat (first | (apply Exists.intro) | (apply And.intro;(first | exact rfl | assumption | exact Or.inl (by assumption) | exact SqL.of (by assumption) | exact Or.inl (SqL.of (by assumption)) | exact ⟨_,by assumption⟩ | exact ⟨_,SqL.of (by assumption)⟩ | exact ⟨_,SqT.of (by assumption)⟩ | exact Or.inl ⟨rfl,_,SqL.of (by assumption)⟩ | omega | exact ⟨by decide,by decide⟩ | exact Or.inl ⟨by decide,by decide⟩ | exact Or.inr ⟨by decide,by decide⟩ | (show (0:Int) < _;omega) | exact aB rfl | exact f9 _ _)))))
noncomputable def df(ns:List Int):Str:=bu (aI (bb ns).toNat) 5++ba (ns.map λ n=>bu n.toNat (aI (bb ns).toNat))
noncomputable def pw(K:W.Frag):Sp:=λ vs H Q _=>∃ (p:Addr) (ns:List Int),vs=[.ref p]/\SqL K H p (ns.map V.int)/\ns.length<=1000/\(∀ n∈ns,0<=n/\n < 2 ^ 30)/\∀ H',Same H H'->Q (.str (df ns)) H'
theorem zbE:(["number", "width"]:List Str).Nodup:=by decide +kernel
theorem sc_even_bits:aA ["numbers", "width"] ["numbers"] (av n9):=by walk_at "sc"
theorem zcH(T:Txt K mg t)(dO:Cal P w K mg base CX0 1 "needed" ["number"] gE)(cF:Cal P w K mg base CX0 1 "in_bits" ["number", "width"] iz)(F:Fun K "even_bits" "even_bits" n9 f fd):FnOk P w K mg base CX0 3 f fd ["numbers"] (pw K):=by
 refine F.ok sc_even_bits (λ vs H Q E h=>?_) (λ cdv A outer s H vs Q E hr h=>?_)
 ·obtain ⟨p,ns,rfl,_⟩:=h;rfl
 ·obtain ⟨p,ns,rfl,hS,hl,hn,q⟩:=h;refine ⟨_,(ak (aE (i:=1) sc_even_bits.nd rfl (Or.inr rfl) (dO.pe hr ax (aa (tP (x9 K rfl) (by rfl) T.i5 PyProof.Rows.Boot.«max» (aa (pv 0) ad) ae) ad)))
  (ao (ay (aj fC (cF.pe hr ax (aa (pv 1) (aa (bf T.iV) ad))) (cD K PySem.F.plainAttrs_str PySem.F.slot_str_join PySem.F.type_str_join (io K) aD (aa (bX (N:=["number", "width"]) (fr:=[none,some 1]) ⟨rfl,rfl,rfl,rfl,rfl,rfl⟩ rfl (bY (pv 0))
    (λ C fp s H=>⟨aR (i:=0) zbE rfl (Or.inl rfl),bz,(cF.pe hr ax (aa (pv 0) (aa (pv 1) ad)))⟩)) ad)))))),?_⟩
  obtain ⟨t0,t1⟩:=kK (k:=2 ^ 30) (by decide) hn;have hw:aI (bb ns).toNat<=30:=gy (by omega);refine ⟨_,rfl,?_⟩;dsimp only [fc,tC];refine zez hS (λ a ha=>(hn a ha).1) ?_;refine ⟨_,rfl,t0,?_⟩
  walk_at "rd"
  intro H1 s1;have hS1:=s1.seq hS
  walk_at "rd"
  refine ⟨cB (xs:=ns.map V.int) (λ i acc H'=>Same H H'/\acc=((ns.take i).map λ n=>V.str (bu n.toNat (aI (bb ns).toNat)))) ⟨s1,rfl⟩ ?_ ?_ ?_ ?_⟩
  ·rintro i acc H' hi ⟨s2,rfl⟩;refine ⟨s2.seq hS,?_⟩;rw [ag,be];omega
  ·rw [ag];exact Nat.le_of_lt (a9 hl)
  ·rintro i x acc H' hx hlt ⟨s2,rfl⟩;rw [ag] at hlt;have ex:ns[i]?=some ns[i]:=by simp [hlt]
   rw [aL,ex] at hx;cases hx;obtain ⟨n0,_⟩:=hn _ (List.getElem_mem hlt);have en:V.int ns[i]=V.int (ns[i].toNat:Int):=by rw [Int.toNat_of_nonneg n0]
   refine ⟨Wk.set rfl,tT ⟨_,rfl,_,rfl,ns[i].toNat,aI (bb ns).toNat,?_,by omega,λ H2 s3=>cw (by rw [ag];exact hlt) ⟨s2.trans s3,?_⟩⟩⟩
   ·show [V.int ns[i],V.int (aI (bb ns).toNat:Int)]=_;rw [en]
   ·rw [List.take_add_one,ex,aJ];rfl
  ·rintro acc H' ⟨s2,rfl⟩ l hl2;have e1:(ns.take (ns.map V.int).length).map (λ n=>V.str (bu n.toNat (aI (bb ns).toNat)))=(ns.map λ n=>bu n.toNat (aI (bb ns).toNat)).map V.str:=by
    rw [ag,aX,List.map_map];rfl
   rw [e1];have sz:((ns.map λ n=>bu n.toNat (aI (bb ns).toNat)).map (·.length)).sum=aI (bb ns).toNat * ns.length:=gg λ x _=>bP _ _;have le:aI (bb ns).toNat * ns.length<=30 * 1000:=Nat.mul_le_mul hw hl;refine ⟨"", l,ns.map λ n=>bu n.toNat (aI (bb ns).toNat),rfl,rfl,SqL.of af,?_,?_⟩
   ·rw [sz];show _+_ * 0<=16777216;omega
   ·rw [ie];refine ⟨_,_,rfl,rfl,?_,q _ (az s2 hl2)⟩;rw [bP,eQ,sz];show (5:Nat)+aI (bb ns).toNat * ns.length<=sizeLine;have:=gD;omega
noncomputable def aV(xs:List OI):Int:=(cb (aZ xs)).getD 0
noncomputable def fS(xs:List OI):Str:=bJ (some (aV xs))++df (xs.map (above (aV xs)))
theorem zfN(h:i∈aZ xs):some i∈xs:=by
 unfold aZ at h;obtain ⟨o,h1,h2⟩:=List.mem_filterMap.mp h;cases h2;exact h1
theorem iq(h:okV (some i)=true): -4000000<=i/\i<=4000000:=of_decide_eq_true h
theorem zaw(h1:M∈aZ xs)(h2:∀ a∈aZ xs,M<=a):aV xs=M:=by
 obtain ⟨m,e⟩:=i4 (l:=aZ xs) (λ z=>by rw [z] at h1;cases h1);have a1:=il e M h1;have a2:=h2 m (i3 e);unfold aV;rw [e];show m=M;omega
theorem mz(h:xs.all okV=true):okV (some (aV xs))=true:=by
 unfold aV;cases e:cb (aZ xs) with
 | none=>decide
 | some m=>exact List.all_eq_true.mp h _ (zfN (i3 e))
theorem jL(h:xs.all okV=true):∀ n∈xs.map (above (aV xs)),0<=n/\n < 2 ^ 30:=by
 intro n hn;obtain ⟨v,hv,rfl⟩:=List.mem_map.mp hn;refine ⟨xl hv,?_⟩;have l:=iq (mz h);cases v with
 | none=>show (0:Int) < 2 ^ 30;decide
 | some i=>
  have:=iq (List.all_eq_true.mp h _ hv);show i - aV xs+1 < 2 ^ 30;omega
theorem zeB(hS:SqL K H p ((aZ xs).map V.int))(q:Q (.int (aV xs)) H):uo K [.ref p] (.int 0) H Q:=
 ⟨p,aZ xs,rfl,hS,λ e=>by unfold aV at q;rw [e] at q;exact q,λ M h1 h2=>by rw [← zaw h1 h2];exact q⟩
theorem jV(h:∀ n∈ns,0<=n/\n < 2 ^ 30)(hl:ns.length<=1000):(df ns).length<=100000:=by
 obtain ⟨t0,t1⟩:=kK (k:=2 ^ 30) (by decide) h;have hw:aI (bb ns).toNat<=30:=gy (by omega);have le:aI (bb ns).toNat * ns.length<=30 * 1000:=Nat.mul_le_mul hw hl;unfold df;rw [cy,bP,eQ,gg (k:=aI (bb ns).toNat) λ x _=>bP _ _];omega
noncomputable def uT(K:W.Frag):Sp:=λ vs H Q _=>∃ (p:Addr) (xs:List OI),vs=[.ref p]/\SqL K H p (xs.map ov)/\xs.length<=1000/\xs.all okV=true/\∀ H',Same H H'->Q (.str (fS xs)) H'
theorem zby:(["value"]:List Str).Nodup:=by decide +kernel
theorem zbz:(["value", "least"]:List Str).Nodup:=by decide +kernel
theorem sc_base_bits:aA ["values", "least"] ["values"] (av nJ):=by walk_at "sc"
theorem zcq(T:Txt K mg t)(dP:Cal P w K mg base CX0 3 "value_bits" ["value"] jp)(gK:Cal P w K mg base CX0 3 "even_bits" ["numbers"] (pw K))(F:Fun K "base_bits" "base_bits" nJ f fd):FnOk P w K mg base CX0 4 f fd ["values"] (uT K):=by
 refine F.ok sc_base_bits (λ vs H Q E h=>?_) (λ cdv A outer s H vs Q E hr h=>?_)
 ·obtain ⟨p,xs,rfl,_⟩:=h;rfl
 ·obtain ⟨p,xs,rfl,hS,hl,hok,q⟩:=h;have el:(xs.map ov).length=xs.length:=ag _;refine ⟨_,(ak (aE (i:=1) sc_base_bits.nd rfl (Or.inr rfl) (tP (yc K rfl) (by rfl) T.i6 PyProof.Rows.Boot.«min» (aa (bX (N:=["value"]) (fr:=[none]) ⟨rfl,rfl,rfl,rfl,rfl,rfl⟩ rfl (bY (pv 0))
    (λ C fp s H=>⟨aR (i:=0) zby rfl (Or.inl rfl),(jc (aG jb (pv 0) bN (aF _))),(pv 0)⟩)) ad) ae))
  (ao (ay (aj fC (dP.pe hr ax (aa (pv 1) ad)) (gK.pe hr ax (aa (bX (N:=["value", "least"]) (fr:=[none,some 1]) ⟨rfl,rfl,rfl,rfl,rfl,rfl⟩ rfl (bY (pv 0))
    (λ C fp s H=>⟨aR (i:=0) zbz rfl (Or.inl rfl),bz,(dj (aG d5 (pv 0) bN (aF _)) ae (aj a8 (aj bR (pv 0) (pv 1)) ae))⟩)) ad)))))),?_⟩
  walk_at "rd"
  refine ⟨cB (xs:=xs.map ov) (λ i acc H'=>Same H H'/\acc=(aZ (xs.take i)).map V.int) ⟨Same.refl _,rfl⟩ ?_ (Nat.le_of_lt (a9 (by omega))) ?_ ?_⟩
  ·rintro i acc H' hi ⟨s1,rfl⟩;refine ⟨s1.seq hS,?_⟩;rw [ag];have h1:(aZ (xs.take i)).length<=(xs.take i).length:=List.length_filterMap_le _ _;rw [be] at h1;omega
  ·rintro i x acc H' hx hlt ⟨s1,rfl⟩;have hlt':i < xs.length:=by rwa [ag] at hlt
   rw [aL,getD_at' hlt'] at hx;cases hx;refine ⟨Wk.set rfl,?_⟩
   walk_at "rd"
   cases e:at' xs i with
   | none=>
    refine ap (cw hlt ⟨s1,?_⟩);rw [cE hlt',e,pd]
   | some z=>
    refine aw ⟨_,rfl,cw hlt ⟨s1,?_⟩⟩;rw [cE hlt',e,pf,aJ];rfl
  ·rintro acc H' ⟨s1,rfl⟩ l hl2;rw [el,aX];have s2:Same H (upd H' l (.lst ((aZ xs).map V.int))):=az s1 hl2;have h2:(upd H' l (.lst ((aZ xs).map V.int))) l=some (.lst ((aZ xs).map V.int)):=af;generalize upd H' l (.lst ((aZ xs).map V.int))=H2 at s2 h2;have hS2:=s2.seq hS;dsimp only [fc,tC];refine zeB (SqL.of h2) ?_;refine ⟨_,rfl,some (aV xs),rfl,mz hok,λ H3 s3=>?_⟩;have s23:=s2.trans s3;have hS3:=s23.seq hS
   walk_at "rd"
   refine ⟨cB (xs:=xs.map ov) (λ i acc H'=>Same H H'/\acc=((xs.take i).map (above (aV xs))).map V.int) ⟨s23,rfl⟩ ?_ (Nat.le_of_lt (a9 (by omega))) ?_ ?_⟩
   ·rintro i acc H4 hi ⟨s4,rfl⟩;refine ⟨s4.seq hS,?_⟩;rw [ag,ag,be];omega
   ·rintro i x acc H4 hx hlt ⟨s4,rfl⟩;have hlt':i < xs.length:=by rwa [ag] at hlt
    rw [aL,getD_at' hlt'] at hx;cases hx;refine ⟨Wk.set rfl,tT ⟨_,rfl,rfl,_,rfl,?_⟩⟩;cases e:at' xs i with
    | none=>
     refine aw (cw hlt ⟨s4,?_⟩);rw [cE hlt',e,aJ,aJ];rfl
    | some z=>
     refine ap ⟨_,rfl,_,rfl,_,_,rfl,rfl,_,_,rfl,rfl,cw hlt ⟨s4,?_⟩⟩;rw [cE hlt',e,aJ,aJ];rfl
   ·rintro acc H4 ⟨s4,rfl⟩ l4 hl4;rw [el,aX];have le:(xs.map (above (aV xs))).length<=1000:=by rw [ag];exact hl
    refine ⟨l4,_,rfl,SqL.of af,le,jL hok,λ H5 s5=>?_⟩;refine ⟨_,_,rfl,rfl,?_,q _ ((az s4 hl4).trans s5)⟩;have a1:(bJ (some (aV xs))).length=24:=bP _ _;have a2:=jV (jL hok) le;have a3:=gD;omega
end
theorem pL(xs:List OI)(i:Nat):stp xs (i+2)=stp xs (i+1)++[bD ((at' xs (i+1)).getD 0 - (at' xs i).getD 0)]:=by
 rw [stp,if_pos (Nat.le_add_left 1 i)];rfl
theorem sj(h:xs.all okV=true)(i:Nat): -4000000<=(at' xs i).getD 0/\(at' xs i).getD 0<=4000000:=by
 by_cases hi:i < xs.length
 ·have hm:=List.all_eq_true.mp h _ (cA (getD_at' hi));cases e:at' xs i with
  | none=>exact ⟨by decide,by decide⟩
  | some z=>rw [e] at hm;exact of_decide_eq_true hm
 ·have e:at' xs i = .none:=by
   unfold at';simp [List.getD,List.getElem?_eq_none (Nat.le_of_not_lt hi)]
  rw [e];exact ⟨by decide,by decide⟩
theorem jr{xs:List OI}(h:xs.all okV=true):∀ n,∀ v∈stp xs n,0<=v/\v < 2 ^ 30
 | 0=>λ v hv=>by cases hv
 | 1=>λ v hv=>by cases hv
 | n+2=>λ v hv=>by
  rw [pL] at hv;rcases al_mp.mp hv with hv | hv
  ·exact jr h (n+1) v hv
  ·have e:v=_:=al_mi.mp hv;rw [e];refine ⟨md _,?_⟩;have a:=sj h (n+1);have b:=sj h n;unfold bD
   split <;> omega
section
local macro_rules | `(tactic| walk_at "rd")=>`(tactic| (repeat (first | (apply Exists.intro) | (apply And.intro;(first | exact rfl | assumption | exact Or.inl (by assumption) | exact SqL.of (by assumption) | exact Or.inl (SqL.of (by assumption)) | exact ⟨_,by assumption⟩ | exact ⟨_,SqL.of (by assumption)⟩ | exact ⟨_,SqT.of (by assumption)⟩ | exact Or.inl ⟨rfl,_,SqL.of (by assumption)⟩ | omega | exact ⟨by decide,by decide⟩ | exact Or.inl ⟨by decide,by decide⟩ | exact Or.inr ⟨by decide,by decide⟩ | (show (0:Int) < _;omega) | exact aB rfl | exact f9 _ _)))))
noncomputable def ge(xs:List OI):Str:=bJ (at' xs 0)++df (stp xs xs.length)
theorem yr(xs:List OI)(h:0 < xs.length):bw (xs.map ov) (some 1) none=(xs.drop 1).map ov:=by
 unfold bw;rw [HT.sIx_none,show (1:Int)=((1:Nat):Int) from rfl,HT.sIx_nat,ag,Nat.min_eq_left h,← List.map_drop,List.take_of_length_le (by simp)]
theorem i7(hn : .none∉xs){i:Nat}(hi:i < xs.length):ov (at' xs i) = .int ((at' xs i).getD 0):=by
 cases e:at' xs i with
 | none=>exact absurd (e ▸ cA (getD_at' hi)) hn
 | some z=>rfl
noncomputable def vx(K:W.Frag):Sp:=λ vs H Q _=>∃ (p:Addr) (xs:List OI),vs=[.ref p]/\SqL K H p (xs.map ov)/\0 < xs.length/\xs.length<=1000/\xs.all okV=true/\.none∉xs/\∀ H',Same H H'->Q (.str (ge xs)) H'
theorem tz:(["ahead", "value"]:List Str).Nodup:=by decide +kernel
theorem sc_steps_bits:aA ["values", "steps"] ["values"] (av oW):=by walk_at "sc"
theorem zdn(T:Txt K mg t)(jy:Cal P w K mg base CX0 1 "folded" ["step"] kA)(dP:Cal P w K mg base CX0 3 "value_bits" ["value"] jp)(gK:Cal P w K mg base CX0 3 "even_bits" ["numbers"] (pw K))(F:Fun K "steps_bits" "steps_bits" oW f fd):
  FnOk P w K mg base CX0 4 f fd ["values"] (vx K):=by
 refine F.ok sc_steps_bits (λ vs H Q E h=>?_) (λ cdv A outer s H vs Q E hr h=>?_)
 ·obtain ⟨p,xs,rfl,_⟩:=h;rfl
 ·obtain ⟨p,xs,rfl,hS,h0,hl,hok,hn,q⟩:=h;refine ⟨_,(ak (gz (i:=1) sc_steps_bits.nd rfl (Or.inl rfl) (N:=["ahead", "value"]) (fr:=[none,none]) ⟨rfl,rfl,rfl,rfl,rfl,rfl⟩ rfl (kh K (by rfl) T.i8 (aa (pv 0) (aa (dk (jm K) (pv 0) (cL ae) d9) ad)))
    (λ C fp s H=>⟨fG K (n:=2) rfl (cW (aR (i:=0) tz rfl (Or.inl rfl)) (cW (aR (i:=1) tz rfl (Or.inl rfl)) fH)),bz,(jy.pe hr ax (aa (aj bR (pv 1) (pv 0)) ad))⟩))
  (ao (ay (aj fC (dP.pe hr ax (aa (aN (bK K) (pv 0) ae (λ _ _=>rfl)) ad)) (gK.pe hr ax (aa (pv 1) ad)))))),?_⟩
  walk_at "rd"
  intro l1 hl1;rw [yr xs h0];have s1:Same H (upd H l1 (.lst ((xs.drop 1).map ov))):=Same.new hl1;have h1:(upd H l1 (.lst ((xs.drop 1).map ov))) l1=some (.lst ((xs.drop 1).map ov)):=af;generalize upd H l1 (.lst ((xs.drop 1).map ov))=H1 at s1 h1;have hS1:=s1.seq hS;refine ⟨p,l1,_,_,rfl,hS1,SqL.of h1,?_⟩;refine ⟨lX (xs:=xs.map ov) (ys:=(xs.drop 1).map ov) (λ i acc H'=>Same H1 H'/\acc=(stp xs (i+1)).map V.int) ⟨Same.refl _,rfl⟩
   (xs.length - 1) (by rw [ag,ag,List.length_drop];omega) (λ i acc H' hi hp'=>⟨hp'.1.seq hS1,SqL.of (hp'.1 _ _ h1),by rw [hp'.2,ag,gf];omega⟩) (Nat.le_of_lt (a9 (by omega))) ?_ ?_⟩
  ·rintro i x y acc H3 T' hx' hy' hi ⟨s3,rfl⟩ hT;have hi1:i < xs.length:=by omega
   have hi2:i+1 < xs.length:=by omega
   have ex:x = .int ((at' xs i).getD 0):=by
    rw [aL,getD_at' hi1] at hx';cases hx';exact i7 hn hi1
   have ey:y = .int ((at' xs (i+1)).getD 0):=by
    rw [aL,List.getElem?_drop,Nat.add_comm 1 i,getD_at' hi2] at hy';cases hy';exact i7 hn hi2
   subst ex ey;have s4:Same H1 (upd H3 T' (.tup [.int ((at' xs i).getD 0),.int ((at' xs (i+1)).getD 0)])):=az s3 hT;refine ⟨T',_,rfl,SqT.of af,rfl,_,_,rfl,_,_,rfl,rfl,(Wk.set rfl).trans (Wk.set rfl),tT ?_⟩;refine ⟨_,rfl,_,rfl,_,_,rfl,rfl,_,rfl,cw hi ⟨s4,?_⟩⟩;rw [pL,aJ];rfl
  ·rintro acc H3 ⟨s3,rfl⟩ l3 hl3;have e1:xs.length - 1+1=xs.length:=by omega
   rw [e1];have s4:Same H (upd H3 l3 (.lst ((stp xs xs.length).map V.int))):=az (s1.trans s3) hl3;have h4:(upd H3 l3 (.lst ((stp xs xs.length).map V.int))) l3=some (.lst ((stp xs xs.length).map V.int)):=af;generalize upd H3 l3 (.lst ((stp xs xs.length).map V.int))=H4 at s4 h4;have hS4:=s4.seq hS;have a0:atI (xs.map ov) 0=some (ov (at' xs 0)):=dG (j:=0) (by rw [aL,getD_at' h0];rfl);have le:(stp xs xs.length).length<=1000:=by rw [← e1,gf];omega
   refine ⟨_,rfl,p,_,_,_,rfl,rfl,hS4,a0,at' xs 0,rfl,List.all_eq_true.mp hok _ (cA (getD_at' h0)),λ H5 s5=>?_⟩;refine ⟨_,rfl,l3,_,rfl,SqL.of (s5 _ _ h4),le,jr hok _,λ H6 s6=>?_⟩;refine ⟨_,_,rfl,rfl,?_,q _ ((s4.trans s5).trans s6)⟩;have a1:(bJ (at' xs 0)).length=24:=bP _ _;have a2:=jV (jr hok xs.length) le;have a3:=gD;omega
end
noncomputable def fM(rs:List (OI × Nat))(v:OI):List (OI × Nat):=match rs.getLast? with
 | some (u,k)=>if u=v then rs.dropLast++[(v,k+1)] else rs++[(v,1)]
 | .none=>[(v,1)]
noncomputable def bO(xs:List OI):List (OI × Nat):=xs.foldl fM []
theorem jk(xs:List OI)(v:OI):bO (xs++[v])=fM (bO xs) v:=by
 unfold bO;rw [List.foldl_append];rfl
theorem zeT(v:OI):fM [] v=[(v,1)]:=rfl
theorem jh(rs:List (OI × Nat))(u:OI)(k:Nat)(v:OI):fM (rs++[(u,k)]) v=if u=v then rs++[(v,k+1)] else (rs++[(u,k)])++[(v,1)]:=by
 unfold fM;rw [List.getLast?_append];simp
theorem zeR(rs:List (OI × Nat))(v:OI):(fM rs v).length<=rs.length+1:=by
 rcases List.eq_nil_or_concat rs with rfl | ⟨r,⟨u,k⟩,rfl⟩
 ·exact Nat.le_refl _
 ·rw [List.concat_eq_append,jh]
  split <;> simp
theorem jj(xs:List OI):(bO xs).length<=xs.length:=by
 rcases List.eq_nil_or_concat xs with rfl | ⟨r,v,e⟩
 ·exact Nat.le_refl _
 ·have ih:=jj r;have:=zeR (bO r) v;rw [e,List.concat_eq_append,jk,bc,dF];omega
termination_by xs.length
decreasing_by (rw [e,List.concat_eq_append,bc];exact Nat.lt_succ_self _)
section
local macro_rules | `(tactic| walk_at "rd")=>`(tactic| (repeat (first | (apply Exists.intro) | (apply And.intro;(first | exact rfl | assumption | exact Or.inl (by assumption) | exact SqL.of (by assumption) | exact Or.inl (SqL.of (by assumption)) | exact ⟨_,by assumption⟩ | exact ⟨_,SqL.of (by assumption)⟩ | exact ⟨_,SqT.of (by assumption)⟩ | exact Or.inl ⟨rfl,_,SqL.of (by assumption)⟩ | omega | exact ⟨by decide,by decide⟩ | exact Or.inl ⟨by decide,by decide⟩ | exact Or.inr ⟨by decide,by decide⟩ | (show (0:Int) < _;omega) | exact aB rfl | exact f9 _ _)))))
noncomputable def lD(H:Hp)(l:Addr)(rs:List (OI × Nat)):Prop:=∃ as:List Addr,H l=some (.lst (as.map V.ref))/\as.length=rs.length/\∀ (j:Nat) (a:Addr) (v:OI) (k:Nat),as[j]?=some a->rs[j]?=some (v,k)->H a=some (.tup [ov v,.int k])
theorem m7{l:Addr}{as:List Addr}{rs:List (OI × Nat)}(g:H l=some (.lst zs))(ea:as.length=rs.length)(el:∀ (j:Nat) (a:Addr) (v:OI) (k:Nat),as[j]?=some a->rs[j]?=some (v,k)->H a=some (.tup [ov v,.int k]))(hT:H a'=none):
  lD (upd (upd H a' (.tup [ov v,.int k])) l (.lst (as.map V.ref++[.ref a']))) l (rs++[(v,k)]):=by
 refine ⟨as++[a'],?_,by simp [ea],λ j a u m e1 e2=>?_⟩
 ·rw [af,aJ];rfl
 ·by_cases hj:j < as.length
  ·rw [List.getElem?_append_left hj] at e1;rw [List.getElem?_append_left (by omega)] at e2;have e:=el j a u m e1 e2;rw [ai (dD e g (by intro z;cases z)),ai (aK e hT)];exact e
  ·rw [List.getElem?_append_right (by omega)] at e1;rw [List.getElem?_append_right (by omega)] at e2;have h0:j - as.length=0:=by
    have:=(al_gs.mp e1).1;simp at this;omega
   rw [h0] at e1;rw [show j - rs.length=0 by omega] at e2;cases e1;cases e2;rw [ai (λ z=>by rw [z,g] at hT;cases hT),af]
theorem o8{l:Addr}{o':HO}(s4:Same H H4)(hT:H4 a'=none)(hl:H l=none):Same H (upd (upd H4 a' o) l o'):=λ b z e=>by
 rw [ai (aK e hl)];exact az s4 hT b z e
noncomputable def vw(K:W.Frag):Sp:=λ vs H Q _=>∃ (p:Addr) (xs:List OI),vs=[.ref p]/\SqL K H p (xs.map ov)/\xs.length<=1000/\∀ (l:Addr) (H':Hp),Same H H'->H l=none->lD H' l (bO xs)->Q (.ref l) H'
theorem sc_runs_of:aA ["values", "runs", "value"] ["values"] (av oV):=by walk_at "sc"
theorem zdm(T:Txt K mg t)(F:Fun K "runs_of" "runs_of" oV f fd):FnOk P w K mg base CX0 1 f fd ["values"] (vw K):=by
 refine F.ok sc_runs_of (λ vs H Q E h=>?_) (λ cdv A outer s H vs Q E hr h=>?_)
 ·obtain ⟨p,xs,rfl,_⟩:=h;rfl
 ·obtain ⟨p,xs,rfl,hS,hl,q⟩:=h;refine ⟨_,(ak (aE (i:=1) sc_runs_of.nd rfl (Or.inl rfl) (bS ad))
  (ak (fK PassesOwn.never rfl (bY (pv 0)) (aR (i:=2) sc_runs_of.nd rfl (Or.inl rfl))
   (ao (aS (PW.pt (eY (jf K (pv 1)) (gb (aG bM (aN (bL K) (aN (bK K) (pv 1) (dl dm ae) (λ _ _=>rfl)) ae (λ _ _=>rfl)) (pv 2) (aF _))))) (ao (zed (cp (aa (pv 2) (aa (aj a8 (aN (bL K) (aN (bK K) (pv 1) (dl dm ae) (λ _ _=>rfl)) ae (λ _ _=>rfl)) ae) ad))) (zd0 (pv 1) (dl dm ae) zfD)))
   (ao (bV (cD K PySem.F.plainAttrs_list PySem.F.slot_list_append PySem.F.type_list_append im (pv 1) (aa (cp (aa (pv 2) (aa ae ad))) ad)))))))
  (ao (ay (pv 1))))),?_⟩
  walk_at "rd"
  intro l hln;have s1:Same H (upd H l (.lst [])):=Same.new hln;have h1:(upd H l (.lst [])) l=some (.lst []):=af;generalize upd H l (.lst [])=H1 at s1 h1;have hS1:=s1.seq hS
  walk_at "rd"
  refine ⟨iU (K:=K) (a:=p) (xs:=xs.map ov) (λ i σ H'=>∃ v:Option V,σ=[some (.ref p),some (.ref l),v]/\Same H H'/\lD H' l (bO (xs.take i)))
   ⟨none,rfl,s1,[],h1,rfl,λ j a v k e=>by cases e⟩ (λ i σ H' hi hp=>by obtain ⟨_,_,s2,_⟩:=hp;exact s2.seq hS) ?_ ?_⟩
  ·rintro i y σ H4 hi ⟨v,rfl,s4,as,g4,ea,el⟩;have hil:i < xs.length:=by
    have:=(al_gs.mp hi).1
    rwa [ag] at this
   rw [aL,getD_at' hil] at hi;cases hi;have et:bO (xs.take (i+1))=fM (bO (xs.take i)) (at' xs i):=by rw [cE hil,jk]
   have hle:=jj (xs.take i);rw [be] at hle;rw [et];generalize bO (xs.take i)=rs at ea el hle;have hz:(as.map V.ref).length < sizeLine:=by rw [ag];exact a9 (by omega)
   rcases List.eq_nil_or_concat rs with rfl | ⟨r0,⟨u,k⟩,er⟩
   ·have e0:as=[]:=List.eq_nil_of_length_eq_zero ea;subst e0
    walk_at "rd"
    intro a' hT;have n1:l≠a':=λ z=>by rw [← z,g4] at hT;cases hT
    refine ⟨l,_,_,rfl,rfl,by rw [ai n1];exact g4,hz,_,rfl,o8 s4 hT hln,?_⟩;exact m7 (k:=1) g4 ea el hT
   ·rw [List.concat_eq_append] at er;subst er;rcases List.eq_nil_or_concat as with rfl | ⟨as0,a0,eas⟩
    ·rw [bc] at ea;cases ea
    rw [List.concat_eq_append] at eas;subst eas;have l0:as0.length=r0.length:=by
     rw [bc,bc] at ea;exact Nat.add_right_cancel ea
    have h0:H4 a0=some (.tup [ov u,.int k]):=el as0.length a0 u k (by rw [List.getElem?_append_right (Nat.le_refl _),Nat.sub_self];rfl) (by rw [l0,List.getElem?_append_right (Nat.le_refl _),Nat.sub_self];rfl);have at1:atI ((as0++[a0]).map V.ref) (-1)=some (.ref a0):=by rw [aJ];exact lL _ _
    have g4':SqL K H4 l ((as0++[a0]).map V.ref):=SqL.of g4;have h0':SqT K H4 a0 [ov u,.int k]:=SqT.of h0;have at2:atI [ov u,.int k] 0=some (ov u):=rfl;have at3:atI [ov u,.int (k:Int)] 1=some (.int k):=rfl;rw [jh];have hne:(!((as0++[a0]).map V.ref).isEmpty)=true:=by simp
    walk_at "rd"
    rw [hne];refine aw ⟨_,rfl,_,rfl,_,_,_,_,rfl,rfl,g4',at1,_,_,_,_,rfl,rfl,h0',at2,_,rfl,f9 _ _,_,rfl,?_⟩;rw [tM];refine ic (λ hc=>?_) (λ hc=>?_)
    ·have hc:u=at' xs i:=of_decide_eq_true hc;rw [if_pos hc];have i1:ixN ((as0++[a0]).map V.ref).length (-1)=some as0.length:=by
      rw [ag,bc,dF];unfold ixN;rw [if_neg (by decide),if_pos (by omega)]
      congr 1
      omega
     refine ⟨_,rfl,_,rfl,_,rfl,_,_,_,_,rfl,rfl,g4',at1,_,_,_,_,rfl,rfl,h0',at3,_,_,rfl,rfl,(show 2<=sizeLine by decide),λ a' hT=>?_⟩;have n1:l≠a':=λ z=>by rw [← z,g4] at hT;cases hT
     refine ⟨_,rfl,_,rfl,l,_,_,as0.length,rfl,rfl,by rw [ai n1];exact g4,i1,_,rfl,o8 s4 hT hln,?_⟩;have e1:((as0++[a0]).map V.ref).set as0.length (.ref a')=as0.map V.ref++[.ref a']:=by
      rw [aJ,List.set_append_right _ _ (by rw [ag];exact Nat.le_refl _),ag,Nat.sub_self];rfl
     rw [e1];refine m7 (k:=k+1) g4 l0 (λ j a v m x1 x2=>el j a v m ?_ ?_) hT
     ·rw [List.getElem?_append_left (al_gs.mp x1).1];exact x1
     ·rw [List.getElem?_append_left (al_gs.mp x2).1];exact x2
    ·have hc:¬ u=at' xs i:=λ z=>hc (aO z);rw [if_neg hc]
     walk_at "rd"
     intro a' hT;have n1:l≠a':=λ z=>by rw [← z,g4] at hT;cases hT
     refine ⟨l,_,_,rfl,rfl,by rw [ai n1];exact g4,hz,_,rfl,o8 s4 hT hln,?_⟩;exact m7 (k:=1) g4 ea el hT
  ·rintro σ H4 ⟨v,rfl,s4,R4⟩;rw [ag,aX] at R4;exact ⟨_,rfl,q l _ s4 hln R4⟩
end
theorem uF:∀ (xs:List OI) (v:OI) (k:Nat),(v,k)∈bO xs->v∈xs/\1<=k:=by
 intro xs;generalize hn:xs.length=n;induction n generalizing xs with
 | zero=>
  intro v k h;rw [List.eq_nil_of_length_eq_zero hn] at h;cases h
 | succ n ih=>
  intro v k h;rcases List.eq_nil_or_concat xs with rfl | ⟨r,y,e⟩
  ·cases h
  rw [List.concat_eq_append] at e;subst e;have hr:r.length=n:=by
   rw [bc,dF] at hn;omega
  have ih:=ih r hr;rw [jk] at h;have old:(v,k)∈bO r->v∈r++[y]/\1<=k:=λ z=>⟨List.mem_append_left _ (ih v k z).1,(ih v k z).2⟩
  generalize bO r=rs at h ih old;rcases List.eq_nil_or_concat rs with rfl | ⟨r0,⟨u,m⟩,er⟩
  ·rw [zeT] at h;cases al_mi.mp h;exact ⟨List.mem_append_right _ (List.mem_singleton_self _),Nat.le_refl _⟩
  ·rw [List.concat_eq_append] at er;subst er;rw [jh] at h
   split at h
   ·rcases al_mp.mp h with h | h
    ·exact old (List.mem_append_left _ h)
    ·cases al_mi.mp h;exact ⟨List.mem_append_right _ (List.mem_singleton_self _),Nat.le_add_left _ _⟩
   ·rcases al_mp.mp h with h | h
    ·exact old h
    ·cases al_mi.mp h;exact ⟨List.mem_append_right _ (List.mem_singleton_self _),Nat.le_refl _⟩
theorem zeS(rs:List (OI × Nat))(v:OI):fM rs v≠[]:=by
 rcases List.eq_nil_or_concat rs with rfl | ⟨r,⟨u,k⟩,rfl⟩
 ·intro z;cases z
 ·rw [List.concat_eq_append,jh]
  split <;> simp
theorem uG(h:0 < xs.length):0 < (bO xs).length:=by
 rcases List.eq_nil_or_concat xs with rfl | ⟨r,y,e⟩
 ·cases h
 ·rw [e,List.concat_eq_append,jk];exact List.length_pos_iff.mpr (zeS _ _)
section
local macro_rules | `(tactic| walk_at "rd")=>`(tactic| (repeat (first | (apply Exists.intro) | (apply And.intro;(first | exact rfl | assumption | exact Or.inl (by assumption) | exact SqL.of (by assumption) | exact Or.inl (SqL.of (by assumption)) | exact ⟨_,by assumption⟩ | exact ⟨_,SqL.of (by assumption)⟩ | exact ⟨_,SqT.of (by assumption)⟩ | exact Or.inl ⟨rfl,_,SqL.of (by assumption)⟩ | omega | exact ⟨by decide,by decide⟩ | exact Or.inl ⟨by decide,by decide⟩ | exact Or.inr ⟨by decide,by decide⟩ | (show (0:Int) < _;omega) | exact aB rfl | exact f9 _ _)))))
noncomputable def cS(q:OI × Nat):Str:=bJ q.1++bu (q.2 - 1) 8
noncomputable def gB(xs:List OI):Str:=bu ((bO xs).length - 1) 8++ba ((bO xs).map cS)
theorem mP(q:OI × Nat):(cS q).length=32:=by
 unfold cS;rw [cy,bP];have:(bJ q.1).length=24:=bP _ _;omega
noncomputable def vv(K:W.Frag):Sp:=λ vs H Q _=>∃ (p:Addr) (xs:List OI),vs=[.ref p]/\SqL K H p (xs.map ov)/\0 < xs.length/\xs.length<=1000/\xs.all okV=true/\∀ H',Same H H'->Q (.str (gB xs)) H'
theorem tw:(["value", "times"]:List Str).Nodup:=by decide +kernel
theorem sc_runs_bits:aA ["values", "runs", "written"] ["values"] (av oU):=by walk_at "sc"
theorem zdl(T:Txt K mg t)(lu:Cal P w K mg base CX0 1 "runs_of" ["values"] (vw K))(dP:Cal P w K mg base CX0 3 "value_bits" ["value"] jp)(cF:Cal P w K mg base CX0 1 "in_bits" ["number", "width"] iz)(F:Fun K "runs_bits" "runs_bits" oU f fd):
  FnOk P w K mg base CX0 4 f fd ["values"] (vv K):=by
 refine F.ok sc_runs_bits (λ vs H Q E h=>?_) (λ cdv A outer s H vs Q E hr h=>?_)
 ·obtain ⟨p,xs,rfl,_⟩:=h;rfl
 ·obtain ⟨p,xs,rfl,hS,h0,hl,hok,q⟩:=h;refine ⟨_,(ak (aE (i:=1) sc_runs_bits.nd rfl (Or.inl rfl) (lu.pe hr ax (aa (pv 0) ad)))
  (ak (gz (i:=2) sc_runs_bits.nd rfl (Or.inl rfl) (N:=["value", "times"]) (fr:=[none,none]) ⟨rfl,rfl,rfl,rfl,rfl,rfl⟩ rfl (bY (pv 1))
    (λ C fp s H=>⟨fG K (n:=2) rfl (cW (aR (i:=0) tw rfl (Or.inl rfl)) (cW (aR (i:=1) tw rfl (Or.inl rfl)) fH)),bz,(aj fC (dP.pe hr ax (aa (pv 0) ad)) (cF.pe hr ax (aa (aj bR (pv 1) ae) (aa (bf T.ms) ad))))⟩))
  (ao (ay (aj fC (cF.pe hr ax (aa (aj bR (aP (cr K) (by rfl) T.bE PyProof.Rows.Boot.«len» (aa (pv 1) ad)) ae) (aa (bf T.mr) ad))) (cD K PySem.F.plainAttrs_str PySem.F.slot_str_join PySem.F.type_str_join (io K) aD (aa (pv 2) ad))))))),?_⟩
  refine ⟨_,rfl,p,xs,rfl,hS,hl,λ l H1 s1 hln R1=>?_⟩;have hfacts:=uF xs;have hpos:=uG h0;have hle:=jj xs;obtain ⟨as,g1,ea,el⟩:=R1;have q':∀ H',Same H H'->Q (.str (bu ((bO xs).length - 1) 8++ba ((bO xs).map cS))) H':=q;generalize bO xs=rs at hfacts hpos hle ea el q';have g1':SqL K H1 l (as.map V.ref):=SqL.of g1
  walk_at "rd"
  have el1:(as.map V.ref).length=rs.length:=by rw [ag];exact ea
  have hl1:(as.map V.ref).length<=1000:=by omega
  refine ⟨cB (xs:=as.map V.ref) (λ i acc H'=>Same H1 H'/\acc=((rs.take i).map cS).map V.str) ⟨Same.refl _,rfl⟩ ?_ (Nat.le_of_lt (a9 hl1)) ?_ ?_⟩
  ·rintro i acc H2 hi ⟨s2,rfl⟩;refine ⟨s2.seq g1',?_⟩;rw [ag,ag,be];omega
  ·rintro i x acc H2 hx hlt ⟨s2,rfl⟩;have hia:i < as.length:=by rwa [ag] at hlt
   have hir:i < rs.length:=by omega
   have ex:rs[i]?=some rs[i]:=aH hir;have exa:as[i]?=some as[i]:=aH hia;rw [aL,exa] at hx;cases hx;obtain ⟨f1,f2⟩:=hfacts rs[i].1 rs[i].2 (List.getElem_mem hir);have tp:=s2 _ _ (el i as[i] rs[i].1 rs[i].2 exa ex);have ek:((rs[i].2:Int) - 1)=((rs[i].2 - 1:Nat):Int):=by omega
   have tk:rs.take (i+1)=rs.take i++[rs[i]]:=by rw [List.take_add_one,ex];rfl
   refine ⟨as[i],_,rfl,SqT.of tp,rfl,_,_,rfl,_,_,rfl,rfl,(Wk.set rfl).trans (Wk.set rfl),tT ?_⟩;refine ⟨_,rfl,rs[i].1,rfl,List.all_eq_true.mp hok _ f1,λ H3 s3=>?_⟩;refine ⟨_,rfl,_,_,rfl,rfl,rs[i].2 - 1,8,?_,by decide,λ H4 s4=>?_⟩
   ·show [V.int ((rs[i].2:Int) - 1),V.int 8]=_;rw [ek];rfl
   refine ⟨_,_,rfl,rfl,?_,cw hlt ⟨(s2.trans s3).trans s4,?_⟩⟩
   ·have a1:(bJ rs[i].1).length=24:=bP _ _;have a2:(bu (rs[i].2 - 1) 8).length=8:=bP _ _;have a3:=gD;omega
   ·rw [tk,aJ,aJ];rfl
  ·rintro acc H2 ⟨s2,rfl⟩ l2 hl2;rw [el1,aX];have s3:Same H1 (upd H2 l2 (.lst ((rs.map cS).map V.str))):=az s2 hl2;have h3:(upd H2 l2 (.lst ((rs.map cS).map V.str))) l2=some (.lst ((rs.map cS).map V.str)):=af;generalize upd H2 l2 (.lst ((rs.map cS).map V.str))=H3 at s3 h3;have g3:=s3.seq g1';have ek:((as.map V.ref).length:Int) - 1=((rs.length - 1:Nat):Int):=by rw [el1];omega
   have sz:((rs.map cS).map (·.length)).sum=32 * rs.length:=gg λ x _=>mP x;refine ⟨_,rfl,l,_,rfl,Or.inl g3,_,_,rfl,rfl,rs.length - 1,8,?_,by decide,λ H4 s4=>?_⟩
   ·show [V.int (((as.map V.ref).length:Int) - 1),V.int 8]=_;rw [ek];rfl
   refine ⟨rfl,_,rfl, "", l2,rs.map cS,rfl,rfl,SqL.of (s4 _ _ h3),?_,?_⟩
   ·rw [sz];show _+_ * 0<=16777216;omega
   ·rw [ie];refine ⟨_,_,rfl,rfl,?_,q' _ ((s1.trans s3).trans s4)⟩;have a2:(bu (rs.length - 1) 8).length=8:=bP _ _;have a3:=gD;rw [a2,eQ,sz];omega
end
noncomputable def bkj:Nat->List OI->List (Key × V)
 | _,[]=>[]
 | n,w::r=>(Sum.inl w,.int (n:Nat))::bkj (n+1) r
theorem qO(v:OI):∀ (ws:List OI) (n:Nat),bkj n (ws++[v])=bkj n ws++[(Sum.inl v,.int ((n+ws.length:Nat):Int))]
 | [],n=>rfl
 | w::r,n=>by
  show (Sum.inl w,V.int (n:Nat))::bkj (n+1) (r++[v])=_;rw [qO v r (n+1)];show _=(Sum.inl w,V.int (n:Nat))::(bkj (n+1) r++_);rw [List.length_cons,show n+1+r.length=n+(r.length+1) by omega]
theorem jO:∀ (ws:List OI) (n:Nat),(bkj n ws).length=ws.length
 | [],_=>rfl
 | _::r,n=>congrArg Nat.succ (jO r (n+1))
theorem qM:∀ (ws:List OI) (n:Nat),(bkj n ws).map (λ kv=>kV kv.1)=ws.map ov
 | [],_=>rfl
 | w::r,n=>by
  show kV (Sum.inl w)::(bkj (n+1) r).map (λ kv=>kV kv.1)=ov w::r.map ov;rw [qM r (n+1)];cases w <;> rfl
theorem qN{v:OI}:∀ {ws:List OI} (n:Nat),v∉ws->bd (bkj n ws) (Sum.inl v:Key)=none
 | [],_,_=>rfl
 | w::r,n,h=>by
  show bd ((Sum.inl w,V.int (n:Nat))::bkj (n+1) r) _=none;rw [dN (λ e=>h (by cases e;exact b9 ..))];exact qN (n+1) λ z=>h (bp _ z)
theorem lQ{v:OI}:∀ {ws:List OI} (n:Nat),v∈ws->bd (bkj n ws) (Sum.inl v:Key)=some (.int ((n+ws.idxOf v:Nat):Int))
 | [],_,h=>nomatch h
 | w::r,n,h=>by
  show bd ((Sum.inl w,V.int (n:Nat))::bkj (n+1) r) _=_;by_cases e:w=v
  ·subst e;rw [ei rfl,List.idxOf_cons_self];rfl
  ·rw [dN (λ z=>e (by cases z;rfl)),lQ (n+1) ((al_mc.mp h).resolve_left λ z=>e z.symm),List.idxOf_cons,show (w == v)=false by simpa using e,show n+1+r.idxOf v=n+(r.idxOf v+1) by omega];rfl
theorem sF(o:OI):kV (Sum.inl o)=ov o:=by cases o <;> rfl
theorem zeX{d:Addr}(s4:Same H H4)(hd:H d=none):Same H (upd H4 d o):=λ b z e=>by
 rw [ai (aK e hd)];exact s4 b z e
theorem jQ(xs:List OI):∀ n,n<=xs.length->(aq (xs.take n)).book.length<=n
 | 0,_=>Nat.le_refl _
 | n+1,h=>by
  have ih:=jQ xs n (by omega);rw [fP h];show (if at' xs n∈(aq (xs.take n)).book then (aq (xs.take n)).book else (aq (xs.take n)).book++[at' xs n]).length<=n+1
  split
  ·omega
  ·rw [bc,dF];omega
noncomputable def eI(ws:List OI)(v:OI):Str:=bu (ws.idxOf v) (aI (ws.length - 1))
noncomputable def gl(xs:List OI):Str:=bu ((aq xs).book.length - 1) 6++c8 (aq xs).book++ba (xs.map (eI (aq xs).book))
noncomputable def uX(K:W.Frag):Sp:=λ vs H Q _=>∃ (p:Addr) (xs:List OI),vs=[.ref p]/\SqL K H p (xs.map ov)/\0 < xs.length/\xs.length<=1000/\xs.all okV=true/\∀ H',Same H H'->Q (.str (gl xs)) H'
theorem zbC:(["value", "width", "book"]:List Str).Nodup:=by decide +kernel
theorem sc_book_bits:aA ["values", "book", "value", "width", "numbers"] ["values"] (av nO):=by walk_at "sc"
theorem zcv(T:Txt K mg t)(dO:Cal P w K mg base CX0 1 "needed" ["number"] gE)(cF:Cal P w K mg base CX0 1 "in_bits" ["number", "width"] iz)(jB:Cal P w K mg base CX0 4 "plain_bits" ["values"] (pH K))(F:Fun K "book_bits" "book_bits" nO f fd):
  FnOk P w K mg base CX0 5 f fd ["values"] (uX K):=by
 refine F.ok sc_book_bits (λ vs H Q E h=>?_) (λ cdv A outer s H vs Q E hr h=>?_)
 ·obtain ⟨p,xs,rfl,_⟩:=h;rfl
 ·obtain ⟨p,xs,rfl,hS,h0,hl,hok,q⟩:=h;have hu:=fu hr;refine ⟨_,(ak (aE (i:=1) sc_book_bits.nd rfl (Or.inr rfl) tS)
  (ak (fK PassesOwn.never rfl (bY (pv 0)) (aR (i:=2) sc_book_bits.nd rfl (Or.inl rfl))
   (ao (bV (cD K PySem.F.plainAttrs_dict PySem.F.slot_dict_setdefault PySem.F.type_dict_setdefault zbk (pv 1) (aa (pv 2) (aa (aP jR (by rfl) T.bE PyProof.Rows.Boot.«len» (aa (pv 1) ad)) ad))))))
  (ak (aE (i:=3) sc_book_bits.nd rfl (Or.inr rfl) (dO.pe hr ax (aa (aj bR (aP jR (by rfl) T.bE PyProof.Rows.Boot.«len» (aa (pv 1) ad)) ae) ad)))
  (ak (gz (i:=4) sc_book_bits.nd rfl (Or.inl rfl) (N:=["value", "width", "book"]) (fr:=[none,some 3,some 1]) ⟨rfl,rfl,rfl,rfl,rfl,rfl⟩ rfl (bY (pv 0))
    (λ C fp s H=>⟨aR (i:=0) zbC rfl (Or.inl rfl),bz,(cF.pe hr ax (aa (tR hu (pv 2) (pv 0) (λ _ _=>rfl)) (aa (pv 1) ad)))⟩))
  (ao (ay (aj fC (aj fC (cF.pe hr ax (aa (aj bR (aP jR (by rfl) T.bE PyProof.Rows.Boot.«len» (aa (pv 1) ad)) ae) (aa (bf T.mn) ad))) (jB.pe hr ax (aa (iu (qY rfl) (by rfl) T.ka PyProof.Rows.Boot.«list» (aa (pv 1) ad)) ad))) (cD K PySem.F.plainAttrs_str PySem.F.slot_str_join PySem.F.type_str_join (io K) aD (aa (pv 4) ad))))))))),?_⟩
  intro d hd;have s1:Same H (upd H d (.dK [])):=Same.new hd;have h1:(upd H d (.dK [])) d=some (.dK (bkj 0 [])):=af;generalize upd H d (.dK [])=H1 at s1 h1;have hS1:=s1.seq hS;refine ⟨_,rfl,p,rfl,⟨_,hS1⟩,⟨iU (K:=K) (a:=p) (xs:=xs.map ov) (λ i σ H'=>∃ v:Option V,σ=[some (.ref p),some (.ref d),v,none,none]/\Same H H'/\H' d=some (.dK (bkj 0 (aq (xs.take i)).book)))
   ⟨none,rfl,s1,h1⟩ (λ i σ H' hi hp=>by obtain ⟨_,_,s2,_⟩:=hp;exact s2.seq hS) ?_ ?_⟩⟩
  ·rintro i y σ H4 hi ⟨v,rfl,s4,h4⟩;have hil:i < xs.length:=by
    have:=(al_gs.mp hi).1
    rwa [ag] at this
   rw [aL,getD_at' hil] at hi;cases hi;have et:(aq (xs.take (i+1))).book=if at' xs i∈(aq (xs.take i)).book then (aq (xs.take i)).book else (aq (xs.take i)).book++[at' xs i]:=by
    rw [fP hil];rfl
   have hle:=jQ xs i (by omega);rw [et];generalize (aq (xs.take i)).book=ws at h4 hle;refine ⟨_,rfl,Or.inr (Or.inr (Or.inl ⟨rfl,Or.inl ⟨_,h4⟩⟩)),_,rfl,_,rfl,d,_,rfl,h4,d,_,Sum.inl (at' xs i),_,rfl,by rw [sF],h4,λ z hz=>?_,λ hz=>⟨?_,?_⟩⟩
   ·have hm:at' xs i∈ws:=by
     by_cases hm:at' xs i∈ws
     ·exact hm
     ·rw [qN 0 hm] at hz;cases hz
    rw [if_pos hm];exact ⟨_,rfl,s4,h4⟩
   ·rw [jO];exact a9 (by omega)
   ·have hm:at' xs i∉ws:=λ hm=>by rw [lQ 0 hm] at hz;cases hz
    rw [if_neg hm];refine ⟨_,rfl,zeX s4 hd,?_⟩;rw [af,zep _ hz,qO,jO,Nat.zero_add]
  ·rintro σ H4 ⟨v,rfl,s4,h4⟩;rw [ag,aX] at h4;have hle:=jQ xs xs.length (Nat.le_refl _);have hmem:=mF (xs:=xs) xs.length;rw [aX] at hle hmem;have q':∀ H',Same H H'->Q (.str (bu ((aq xs).book.length - 1) 6++c8 (aq xs).book++ba (xs.map (eI (aq xs).book)))) H':=q;generalize (aq xs).book=ws at h4 hle hmem q';have hpos:0 < ws.length:=List.length_pos_of_mem ((hmem _ (Nat.le_refl _)).mpr (cA (getD_at' h0)));have el:((bkj 0 ws).length:Int) - 1=((ws.length - 1:Nat):Int):=by rw [jO];omega
   have hw:aI (ws.length - 1)<=10:=gy (by omega);have hS4:=s4.seq hS;have ew:aI (((bkj 0 ws).length:Int) - 1).toNat=aI (ws.length - 1):=by rw [el,Int.toNat_natCast]
   refine ⟨_,rfl,d,_,rfl,h4,_,_,rfl,rfl,_,rfl,by omega,?_⟩;rw [ew];refine ⟨_,rfl,p,rfl,⟨_,hS4⟩,⟨cB (xs:=xs.map ov) (λ i acc H'=>Same H4 H'/\acc=((xs.take i).map (eI ws)).map V.str) ⟨Same.refl _,rfl⟩ ?_ ?_ ?_ ?_⟩⟩
   ·rintro i acc H5 hi ⟨s5,rfl⟩;refine ⟨s5.seq hS4,?_⟩;rw [ag,ag,be];omega
   ·rw [ag];exact Nat.le_of_lt (a9 hl)
   ·rintro i x acc H5 hx hlt ⟨s5,rfl⟩;have hlt':i < xs.length:=by rwa [ag] at hlt
    rw [aL,getD_at' hlt'] at hx;cases hx;have hm:at' xs i∈ws:=(hmem _ (Nat.le_refl _)).mpr (cA (getD_at' hlt'));have h5:=s5 _ _ h4;have dg:DGet H5 d (ov (at' xs i)) (some (.int ((ws.idxOf (at' xs i):Nat):Int))):=.inl ⟨_,Sum.inl (at' xs i),.inl h5,(sF _).symm,by rw [lQ 0 hm,Nat.zero_add]⟩;refine ⟨Wk.set rfl,tT ?_⟩;refine ⟨_,rfl,_,rfl,d,_,rfl,dg,_,rfl,ws.idxOf (at' xs i),aI (ws.length - 1),rfl,by omega,λ H6 s6=>cw hlt ⟨s5.trans s6,?_⟩⟩;rw [cE hlt',aJ,aJ];rfl
   ·rintro acc H5 ⟨s5,rfl⟩ l5 hl5;rw [ag,aX];have s6:Same H4 (upd H5 l5 (.lst ((xs.map (eI ws)).map V.str))):=az s5 hl5;have h6:(upd H5 l5 (.lst ((xs.map (eI ws)).map V.str))) l5=some (.lst ((xs.map (eI ws)).map V.str)):=af;generalize upd H5 l5 (.lst ((xs.map (eI ws)).map V.str))=H6 at s6 h6;have d6:=s6 _ _ h4;have sz:((xs.map (eI ws)).map (·.length)).sum=aI (ws.length - 1) * xs.length:=gg λ x _=>bP _ _;have szl:aI (ws.length - 1) * xs.length<=10 * 1000:=Nat.mul_le_mul hw hl;have okw:ws.all okV=true:=List.all_eq_true.mpr λ v hv=>List.all_eq_true.mp hok v ((hmem v (Nat.le_refl _)).mp hv);refine ⟨_,rfl,d,_,rfl,d6,_,_,rfl,rfl,ws.length - 1,6,?_,by decide,λ H7 s7=>?_⟩
    ·show [V.int (((bkj 0 ws).length:Int) - 1),V.int 6]=_;rw [el];rfl
    refine ⟨_,rfl,d,_,rfl,s7 _ _ d6,λ l8 hl8=>?_⟩;rw [qM];refine ⟨l8,ws,rfl,SqL.of af,by omega,okw,λ H9 s9=>?_⟩;have s79:Same H6 H9:=(az s7 hl8).trans s9;have a1:(bu (ws.length - 1) 6).length=6:=bP _ _;have a2:(c8 ws).length=24 * ws.length:=by unfold c8;rw [eQ,mV]
    have a3:=gD;refine ⟨_,_,rfl,rfl,by omega,?_⟩;refine ⟨rfl,_,rfl, "", l5,xs.map (eI ws),rfl,rfl,SqL.of (s79 _ _ h6),?_,?_⟩
    ·rw [sz];show _+_ * 0<=16777216;omega
    ·rw [ie];refine ⟨_,_,rfl,rfl,?_,q' _ ((s4.trans s6).trans s79)⟩;rw [cy,a1,a2,eQ,sz];omega
noncomputable def cP:Nat->List OI->Str
 | 0=>c8
 | 1=>gB
 | 2=>gl
 | 3=>fS
 | _=>ge
noncomputable def cT(j:Nat)(xs:List OI):Str:=bu j 3++bu (xs.length - 1) 8++cP j xs
theorem rm4(h:rm xs 4≠.none): .none∉xs:=λ c=>h (by
 show gh (if (aq xs).none=true then .none else _)=_;rw [if_pos ((zeJ xs).mpr c)];rfl)
theorem eE(h:okB xs=true):xs.all okV=true/\xs.length<=100:=by
 simp only [okB,Bool.and_eq_true,decide_eq_true_eq] at h;exact ⟨h.2,h.1.2⟩
theorem ki(xs:List OI):(c8 xs).length=24 * xs.length:=by unfold c8;rw [eQ,mV]
theorem uE(xs:List OI):(gB xs).length=8+32 * (bO xs).length:=by
 unfold gB;rw [cy,bP,eQ,gg (k:=32) λ x _=>mP x]
theorem qT(xs:List OI):(gl xs).length=6+24 * (aq xs).book.length+aI ((aq xs).book.length - 1) * xs.length:=by
 unfold gl;rw [cy,cy,bP,ki,eQ,gg (f:=eI (aq xs).book) (k:=aI ((aq xs).book.length - 1)) λ x _=>bP _ _]
theorem evenS_len'(ns:List Int):(df ns).length=5+aI (bb ns).toNat * ns.length:=by
 unfold df;rw [cy,bP,eQ,gg (k:=aI (bb ns).toNat) λ x _=>bP _ _]
theorem gH(o:OI):(bJ o).length=24:=bP _ _
theorem xN(xs:List OI):(fS xs).length=24+(5+aI (bb (xs.map (above (aV xs)))).toNat * xs.length):=by
 unfold fS;rw [cy,gH,evenS_len',ag]
theorem zfR(xs:List OI):(ge xs).length=24+(5+aI (bb (stp xs xs.length)).toNat * (stp xs xs.length).length):=by
 unfold ge;rw [cy,gH,evenS_len']
theorem qU(xs:List OI):(aq xs).book.length<=xs.length:=by
 have:=jQ xs xs.length (Nat.le_refl _)
 rwa [aX] at this
theorem zfS(xs:List OI):(stp xs xs.length).length<=xs.length:=by
 cases h:xs.length with
 | zero=>simp [stp]
 | succ n=>rw [gf];omega
theorem qS(hl:xs.length<=1000)(hok:xs.all okV=true)(j:Nat):(cP j xs).length<=200000:=by
 have hb:=qU xs;have hr:=jj xs
 match j with
 | 0=>show (c8 xs).length<=_;rw [ki];omega
 | 1=>show (gB xs).length<=_;rw [uE];omega
 | 2=>
  show (gl xs).length<=_;have hw:aI ((aq xs).book.length - 1)<=10:=gy (by omega);have:=Nat.mul_le_mul hw hl;rw [qT];omega
 | 3=>
  show (fS xs).length<=_;have:=jV (jL hok) (by rw [ag];exact hl);unfold fS;rw [cy,gH];omega
 | j+4=>
  show (ge xs).length<=_;have:=jV (jr hok xs.length) (Nat.le_trans (zfS xs) hl);unfold ge;rw [cy,gH];omega
noncomputable def spW(K:W.Frag):Str->Sp:=λ x vs H Q _=>∃ (p:Addr) (xs:List OI) (j:Nat),vs=[.ref p]/\kindsS[j]?=some x/\SqL K H p (xs.map ov)/\0 < xs.length/\xs.length<=1000/\xs.all okV=true/\(j=4->.none∉xs)/\
 ∀ H',Same H H'->Q (.str (cP j xs)) H'
theorem zgU{f1 f2 f3 f4 f5:Addr}(hm:mg "WRITERS" = some (.ref a))(hl:K.lookup a=some ⟨.type "dict", none,.dict es n,#[]⟩)(hk:W.KeysLit w.params es.toList)(n1:W.nsIn K a "plain" = some (some (.ref f1)))(n2:W.nsIn K a "runs" = some (some (.ref f2)))(n3:W.nsIn K a "book" = some (some (.ref f3)))(n4:W.nsIn K a "base" = some (some (.ref f4)))(n5:W.nsIn K a "steps" = some (some (.ref f5)))(g1:mg "plain_bits" = some (.ref f1))(g2:mg "runs_bits" = some (.ref f2))(g3:mg "book_bits" = some (.ref f3))(g4:mg "base_bits" = some (.ref f4))(g5:mg "steps_bits" = some (.ref f5))(C1:Cal P w K mg base CX0 4 "plain_bits" ["values"] (pH K))(C2:Cal P w K mg base CX0 4 "runs_bits" ["values"] (vv K))(C3:Cal P w K mg base CX0 5 "book_bits" ["values"] (uX K))(C4:Cal P w K mg base CX0 4 "base_bits" ["values"] (uT K))(C5:Cal P w K mg base CX0 4 "steps_bits" ["values"] (vx K)):CalT P w K mg base CX0 5 "WRITERS" ["values"] kindsS (spW K):=by
 refine ⟨a,es,n,hm,hl,hk,λ y hy=>?_⟩;obtain ⟨j,hj⟩:=List.getElem?_of_mem hy;have only:∀ {i:Nat},kindsS[i]?=some y->i=j:=λ h=>eU gx h hj;rcases rX hj with ⟨rfl,rfl⟩ | ⟨rfl,rfl⟩ | ⟨rfl,rfl⟩ | ⟨rfl,rfl⟩ | ⟨rfl,rfl⟩
 ·obtain ⟨f,fd,G,m,k,b⟩:=C1;cases g1.symm.trans m;exact ⟨_,fd,n1,(G.mono (by decide)).imp (λ vs H Q E ⟨p,xs,i,e,hi,hS,h0,hl,hok,hn,q⟩=>by cases only hi;exact ⟨p,xs,e,hS,hl,hok,q⟩),k,b⟩
 ·obtain ⟨f,fd,G,m,k,b⟩:=C2;cases g2.symm.trans m;exact ⟨_,fd,n2,(G.mono (by decide)).imp (λ vs H Q E ⟨p,xs,i,e,hi,hS,h0,hl,hok,hn,q⟩=>by cases only hi;exact ⟨p,xs,e,hS,h0,hl,hok,q⟩),k,b⟩
 ·obtain ⟨f,fd,G,m,k,b⟩:=C3;cases g3.symm.trans m;exact ⟨_,fd,n3,G.imp (λ vs H Q E ⟨p,xs,i,e,hi,hS,h0,hl,hok,hn,q⟩=>by cases only hi;exact ⟨p,xs,e,hS,h0,hl,hok,q⟩),k,b⟩
 ·obtain ⟨f,fd,G,m,k,b⟩:=C4;cases g4.symm.trans m;exact ⟨_,fd,n4,(G.mono (by decide)).imp (λ vs H Q E ⟨p,xs,i,e,hi,hS,h0,hl,hok,hn,q⟩=>by cases only hi;exact ⟨p,xs,e,hS,hl,hok,q⟩),k,b⟩
 ·obtain ⟨f,fd,G,m,k,b⟩:=C5;cases g5.symm.trans m;exact ⟨_,fd,n5,(G.mono (by decide)).imp (λ vs H Q E ⟨p,xs,i,e,hi,hS,h0,hl,hok,hn,q⟩=>by cases only hi;exact ⟨p,xs,e,hS,h0,hl,hok,hn rfl,q⟩),k,b⟩
noncomputable def pG(K:W.Frag)(t:Ad):Sp:=λ vs H Q E=>∃ (p:Addr) (xs:List OI) (x:Str),vs=[.str x,.ref p]/\SqL K H p (xs.map ov)/\xs.length<=1000/\
 (okB xs=false->∀ H',Same H H'->E (.ref t.de) none H')/\(okB xs=true->x∉kindsS->∀ H',Same H H'->E (.ref t.eB) none H')/\
 (okB xs=true->∀ j,kindsS[j]?=some x->rm xs j = .none->∀ H',Same H H'->E (.ref t.eB) none H')/\
 (okB xs=true->∀ j,kindsS[j]?=some x->rm xs j≠.none->∀ H',Same H H'->Q (.str (cT j xs)) H')
theorem zc7(T:Txt K mg t)(lq:Cal P w K mg base (CXr P w) 6 "room" ["kind", "values"] (vq K t))(cF:Cal P w K mg base CX0 1 "in_bits" ["number", "width"] iz)(kQ:CalT P w K mg base CX0 5 "WRITERS" ["values"] kindsS (spW K))(F:Fun K "packed" "packed" oG f fd):FnOk P w K mg base (CXr P w) 7 f fd ["kind", "values"] (pG K t):=by
 refine F.okX sc_packed (λ vs H Q E h=>?_) (λ cdv A outer s H vs Q E hr h=>?_)
 ·obtain ⟨p,xs,x,rfl,_⟩:=h;rfl
 ·obtain ⟨p,xs,x,rfl,hS,hl,k1,k2,k3,k4⟩:=h;have el:(xs.map ov).length=xs.length:=ag _;refine ⟨_,(ak (aS (aG d5 (lq.pe hr cV (aa (pv 0) (aa (pv 1) ad))) bN (aF _)) (ao (eF eG T.wl rfl (by rfl) T.ml (aa aD ad)))
   aY)
  (ak (aE (i:=2) sc_packed.nd rfl (Or.inl rfl) (aj fC (cF.pe hr ax (aa (cD K PySem.F.plainAttrs_tuple PySem.F.slot_tuple_index PySem.F.type_tuple_index (zbl K) (di T.hV) (aa (pv 0) ad)) (aa (bf T.mo) ad))) (cF.pe hr ax (aa (aj bR (aP (cr K) (by rfl) T.bE PyProof.Rows.Boot.«len» (aa (pv 1) ad)) ae) (aa (bf T.mq) ad)))))
  (ao (ay (aj fC (pv 2) (kQ.pe hr ax (pv 0) (aa (pv 1) ad))))))),?_⟩
  refine ⟨_,rfl,_,rfl,p,xs,x,rfl,hS,hl,k1,k2,λ okb j hj H1 s1=>?_⟩;have h0:=fB okb;obtain ⟨hok,h100⟩:=eE okb;obtain ⟨q1,q2⟩:=sH hj;have k3:=k3 okb j hj;have k4:=k4 okb j hj;have hr4:j=4->rm xs j≠.none->.none∉xs:=λ e h=>by subst e;exact rm4 h
  refine ⟨rfl,_,rfl,?_⟩;show (if decide (ov (rm xs j) = .non)=true then _ else _);cases e:rm xs j with
  | none=>exact aw ⟨by show 1<=sizeLine;decide,k3 e H1 s1⟩
  | some M=>
   have hne:rm xs j≠.none:=by rw [e];intro z;cases z
   refine ap ?_;have ej:((xs.length:Int) - 1)=((xs.length - 1:Nat):Int):=by omega
   refine ⟨.inr (.inl ⟨rfl,T.sG⟩),_,rfl,t.dU,kindsV,.str x,j,rfl,rfl,T.ij _,rfl,rfl,q1,q2,?_⟩;refine ⟨j,3,rfl,by decide,λ H2 s2=>?_⟩;refine ⟨_,rfl,p,_,rfl,.inl ((s1.trans s2).seq hS),_,_,rfl,rfl,xs.length - 1,8,?_,by decide,λ H3 s3=>?_⟩
   ·show [V.int (((xs.map ov).length:Int) - 1),V.int 8]=_;rw [el,ej];rfl
   have a1:(bu j 3).length=3:=bP _ _;have a2:(bu (xs.length - 1) 8).length=8:=bP _ _;have a3:=gD;refine ⟨_,_,rfl,rfl,by omega,?_⟩;refine ⟨_,rfl,_,rfl,x,rfl,cA hj,_,rfl,p,xs,j,rfl,hj,((s1.trans s2).trans s3).seq hS,h0,hl,hok,λ z=>hr4 z hne,λ H4 s4=>?_⟩;refine ⟨_,_,rfl,rfl,?_,k4 hne H4 (((s1.trans s2).trans s3).trans s4)⟩;have:=qS hl hok j;rw [cy,a1,a2];omega
theorem zgy(ns:List Int):∀ a∈0::ns,a<=bb ns:=by
 obtain ⟨m,e⟩:=mE (l:=0::ns) (by simp);have:bb ns=m:=by unfold bb;rw [e];rfl
 rw [this];exact mD e
theorem mJ(a:List Nat):(fz a).length=a.length:=by simp [fz]
theorem j0(a:Str)(l:List Str):ba (a::l)=a++ba l:=by
 apply iB;rw [cZ,dZ,dZ,List.map_cons,List.flatten_cons]
theorem Ris.snoc{m e:Nat}:∀ {l:List Nat} {b:Nat},Ris m b l->m < e->Ris e b (l++[e])
 | [],b,h,he=>⟨by have:b=m:=h;omega,rfl⟩
 | _::_,_,h,he=>⟨h.1,Ris.snoc h.2 he⟩
theorem l9(xs:List OI):∀ e,Ris e 0 (cQ xs e):=by
 intro e;induction e using Nat.strongRecOn with
 | ind e ih=>
  by_cases h:e=0
  ·subst h;exact rfl
  ·have hl:=iX xs (e:=e) (by omega);rw [lZ xs (by omega)];exact (ih _ hl).snoc hl
noncomputable def cH(xs:List OI):Nat->List Nat->List (List OI)
 | _,[]=>[]
 | b,e::r=>(xs.drop b).take (e - b)::cH xs e r
theorem gX(xs:List OI):∀ (b:Nat) (l:List Nat),(cH xs b l).length=l.length
 | _,[]=>rfl
 | b,e::r=>congrArg Nat.succ (gX xs e r)
theorem jP(xs:List OI):∀ (b:Nat) (l:List Nat) (i:Nat),i < l.length->(cH xs b l)[i]?=some ((xs.drop ((b::l).getD i 0)).take (l.getD i 0 - (b::l).getD i 0))
 | b,e::r,0,_=>rfl
 | b,e::r,i+1,h=>by
  have:=jP xs e r i (by simpa using h);show (cH xs e r)[i]?=_;rw [this];simp [List.getD]
theorem tJ(h:okC xs=true):xs.all okV=true:=by
 simp only [okC,Bool.and_eq_true] at h;exact h.2
theorem lR(hok:xs.all okV=true)(hl:xs.length<=100)(hb:b < e)(he:e<=xs.length):okB ((xs.drop b).take (e - b))=true:=by
 have ll:((xs.drop b).take (e - b)).length=e - b:=by rw [be,List.length_drop];omega
 unfold okB;rw [ll,aO (by omega),Bool.true_and,List.all_eq_true];intro v hv;exact List.all_eq_true.mp hok v (List.mem_of_mem_drop (List.mem_of_mem_take hv))
noncomputable def fi(xs:List OI):Str:=cT (ci xs) xs
theorem lO(xs:List OI):ci xs < 5/\rm xs (ci xs)=some (fh xs):=by
 obtain ⟨M,h1,h2,_⟩:=qD xs;have h5:ci xs < (bn (aq xs)).length:=(al_gs.mp h2).1;refine ⟨h5,?_⟩;unfold rm;rw [List.getD,h2,qB h1];rfl
theorem xP(xs:List OI):kindsS[ci xs]?=some (kindsS.getD (ci xs) ""):=by
 have h:ci xs < kindsS.length:=(lO xs).1;simp [List.getD,h]
noncomputable def iE(xs:List OI):Str:=ba ((cH xs 0 (cQ xs xs.length)).map fi)
noncomputable def wm(H:Hp)(l:Addr)(bs:List (List OI)):Prop:=∃ as:List Addr,H l=some (.lst (as.map V.ref))/\as.length=bs.length/\∀ (j:Nat) (a:Addr) (b:List OI),as[j]?=some a->bs[j]?=some b->H a=some (.lst (b.map ov))
noncomputable def uW(K:W.Frag):Sp:=λ vs H Q _=>∃ (p e:Addr) (xs:List OI) (ens:List Nat),vs=[.ref p,.ref e]/\SqL K H p (xs.map ov)/\H e=some (.lst (fz ens))/\xs.length<=1000/\Ris xs.length 0 ens/\ens.length<=1000/\
 ∀ (l:Addr) (H':Hp),Same H H'->H l=none->wm H' l (cH xs 0 ens)->Q (.ref l) H'
theorem tu:(["begin", "end", "values"]:List Str).Nodup:=by decide +kernel
theorem zfb:aA ["values", "ends"] ["values", "ends"] (av nM):=by walk_at "sc"
theorem zcu(T:Txt K mg t)(F:Fun K "blocks_between" "blocks_between" nM f fd):FnOk P w K mg base CX0 1 f fd ["values", "ends"] (uW K):=by
 refine F.ok zfb (λ vs H Q E h=>?_) (λ cdv A outer s H vs Q E hr h=>?_)
 ·obtain ⟨p,e,xs,ens,rfl,_⟩:=h;rfl
 ·obtain ⟨p,e,xs,ens,rfl,hS,he,hx,ris,hen,q⟩:=h;refine ⟨_,(ao (ay (bX (N:=["begin", "end", "values"]) (fr:=[none,none,some 0]) ⟨rfl,rfl,rfl,rfl,rfl,rfl⟩ rfl (kh K (by rfl) T.i8 (aa (aj ir (bS (aa ae ad)) (pv 1)) (aa (pv 1) ad)))
    (λ C fp s H=>⟨fG K (n:=2) rfl (cW (aR (i:=0) tu rfl (Or.inl rfl)) (cW (aR (i:=1) tu rfl (Or.inl rfl)) fH)),bz,(dk (jm K) (pv 2) (cL (pv 0)) (cL (pv 1)))⟩)))),?_⟩
  refine ⟨aB rfl,λ l1 hl1=>?_⟩;have n1:e≠l1:=aK he hl1;refine ⟨_,rfl,l1,e,_,_,rfl,rfl,af,by rw [ai n1];exact he,?_,λ l2 hl2=>?_⟩
  ·rw [mJ];exact Nat.le_of_lt (small1000' (show 1+ens.length<=10000 by omega))
  have s2:Same H (upd (upd H l1 (.lst [.int 0])) l2 (.lst ([.int 0]++fz ens))):=az (Same.new hl1) hl2;have h2:(upd (upd H l1 (.lst [.int 0])) l2 (.lst ([.int 0]++fz ens))) l2=some (.lst (fz (0::ens))):=af;generalize upd (upd H l1 (.lst [.int 0])) l2 (.lst ([.int 0]++fz ens))=H2 at s2 h2;have he2:=s2 _ _ he;refine ⟨_,rfl,l2,e,_,_,rfl,SqL.of h2,SqL.of he2,?_⟩;refine ⟨lX (xs:=fz (0::ens)) (ys:=fz ens) (λ i acc H'=>Same H2 H'/\∃ as:List Addr,acc=as.map V.ref/\as.length=i/\∀ (j:Nat) (a:Addr) (b:List OI),as[j]?=some a->(cH xs 0 ens)[j]?=some b->H' a=some (.lst (b.map ov))) ⟨Same.refl _,[],rfl,rfl,λ j a b e=>by cases e⟩
   ens.length (by rw [mJ,mJ,List.length_cons];omega) (λ i acc H' hi hp'=>⟨SqL.of (hp'.1 _ _ h2),SqL.of (hp'.1 _ _ he2),by obtain ⟨_,as,e,h,_⟩:=hp';rw [e,ag];omega⟩) (Nat.le_of_lt (a9 (by omega))) ?_ ?_⟩
  ·rintro i x y acc H3 T' hx' hy' hi ⟨s3,as,rfl,ha,hb⟩ hT;obtain ⟨r1,r2⟩:=ris.at i hi;have ex:x = .int (((0::ens).getD i 0:Nat):Int):=by
    have:i < (0::ens).length:=by rw [List.length_cons];omega
    rw [aL,aL,aH this] at hx';cases hx';simp only [List.getD,aH this,Option.getD_some]
   have ey:y = .int ((ens.getD i 0:Nat):Int):=by
    rw [aL,aL,aH hi] at hy';cases hy';simp only [List.getD,aH hi,Option.getD_some]
   have hg:=jP xs 0 ens i hi;generalize (0::ens).getD i 0=b at r1 ex hg;generalize ens.getD i 0=c at r1 r2 ey hg;subst ex ey;have s4:Same H2 (upd H3 T' (.tup [.int b,.int c])):=az s3 hT;refine ⟨T',_,rfl,SqT.of af,rfl,_,_,rfl,_,_,rfl,rfl,(Wk.set rfl).trans (Wk.set rfl),tT ?_⟩;refine ⟨_,rfl,_,rfl,_,rfl,_,rfl,_,rfl,p,_,rfl,(s2.trans s4).seq hS,λ l5 hl5=>?_⟩;rw [yq xs (by omega) r2];have s5:=az (o:=.lst (((xs.drop b).take (c - b)).map ov)) s4 hl5;refine cw hi ⟨s5,as++[l5],by rw [aJ];rfl,by simp [ha],λ j a z e1 e2=>?_⟩;by_cases hj:j < as.length
   ·rw [List.getElem?_append_left hj] at e1;have h6:=az s3 hT (o:=.tup [.int b,.int c]);have h7:=hb j a z e1 e2;have h8:(upd H3 T' (.tup [.int b,.int c])) a=some (.lst (z.map ov)):=by rw [ai (aK h7 hT)];exact h7
    rw [ai (aK h8 hl5)];exact h8
   ·rw [List.getElem?_append_right (by omega)] at e1;have hji:j - as.length=0:=by
     have:=(al_gs.mp e1).1;simp at this;omega
    rw [hji] at e1;cases e1;rw [show j=i by omega,hg] at e2;cases e2;exact af
  ·rintro acc H3 ⟨s3,as,rfl,ha,hb⟩ l hl2';refine q l _ (az (s2.trans s3) hl2') ((s2.trans s3).free hl2') ⟨as,af,by rw [ha,gX],λ j a b e1 e2=>?_⟩;have:=hb j a b e1 e2;rw [ai (aK this hl2')];exact this
noncomputable def vz(K:W.Frag)(t:Ad):Sp:=λ vs H Q E=>∃ (p:Addr) (xs:List OI),vs=[.ref p]/\SqL K H p (xs.map ov)/\xs.length<=1000/\
 (okC xs=true->∀ H',Same H H'->Q (.str (iE xs)) H')/\(okC xs=false->∀ H',Same H H'->E (.ref t.de) none H')
theorem sr{l:List Str}(h:∀ s∈l,s.length<=k):(l.map (·.length)).sum<=k * l.length:=by
 induction l with
 | nil=>exact Nat.zero_le _
 | cons a r ih=>
  rw [List.map_cons,List.sum_cons,List.length_cons,Nat.mul_succ];have:=ih λ s hs=>h s (bp _ hs);have:=h a b9;omega
theorem qC(hl:xs.length<=1000)(hok:xs.all okV=true):(fi xs).length<=200011:=by
 unfold fi cT;rw [cy,cy,bP,bP];have:=qS hl hok (ci xs);omega
theorem zbX:(["block"]:List Str).Nodup:=by decide +kernel
theorem zfz:aA ["values"] ["values"] (av oZ):=by walk_at "sc"
theorem zds(T:Txt K mg t)(kU:Cal P w K mg base CX0 1 "blocks_between" ["values", "ends"] (uW K))(k9:Cal P w K mg base (CXr P w) 8 "cuts" ["values"] (u9 K t))(gM:Cal P w K mg base (CXr P w) 7 "packed" ["kind", "values"] (pG K t))(kS:Cal P w K mg base (CXr P w) 6 "best_kind" ["values"] (uU K t))(F:Fun K "tight" "tight" oZ f fd):
  FnOk P w K mg base (CXr P w) 9 f fd ["values"] (vz K t):=by
 refine F.okX zfz (λ vs H Q E h=>?_) (λ cdv A outer s H vs Q E hr h=>?_)
 ·obtain ⟨p,xs,rfl,_⟩:=h;rfl
 ·obtain ⟨p,xs,rfl,hS,hl,k1,k2⟩:=h;refine ⟨_,(ao (ay (cD K PySem.F.plainAttrs_str PySem.F.slot_str_join PySem.F.type_str_join (io K) aD (aa (bX (N:=["block"]) (fr:=[none]) ⟨rfl,rfl,rfl,rfl,rfl,rfl⟩ rfl (bY (kU.pe hr ax (aa (pv 0) (aa (k9.pe hr cV (aa (pv 0) ad)) ad))))
    (λ C fp s H=>⟨aR (i:=0) zbX rfl (Or.inl rfl),bz,(gM.pe hr cU (aa (kS.pe hr cU (aa (pv 0) ad)) (aa (pv 0) ad)))⟩)) ad)))),?_⟩
  refine ⟨rfl,_,rfl,_,rfl,p,xs,rfl,hS,hl,λ ok c H1 s1 hc h1=>?_,k2⟩;have l64:=ip ok;have hok:=tJ ok;have ris:=l9 xs xs.length;have clen:=lY xs xs.length;have k1:∀ H',Same H H'->Q (.str (ba ((cH xs 0 (cQ xs xs.length)).map fi))) H':=k1 ok;generalize cQ xs xs.length=ens at h1 ris clen k1;refine ⟨p,c,xs,ens,rfl,s1.seq hS,h1,hl,ris,by omega,λ l H2 s2 hln B2=>?_⟩;have bl:=gX xs 0 ens;have bg:=jP xs 0 ens;obtain ⟨as,g2,ea,eb⟩:=B2;have la:(as.map V.ref).length=ens.length:=by rw [ag];omega
  refine ⟨l,rfl,⟨_,SqL.of g2⟩,⟨cB (xs:=as.map V.ref) (λ i acc H'=>Same H2 H'/\acc=(((cH xs 0 ens).take i).map fi).map V.str) ⟨Same.refl _,rfl⟩ ?_ (Nat.le_of_lt (a9 (by omega))) ?_ ?_⟩⟩
  ·rintro i acc H3 hi ⟨s3,rfl⟩;refine ⟨SqL.of (s3 _ _ g2),?_⟩;rw [ag,ag,be];omega
  ·rintro i y acc H3 hx hlt ⟨s3,rfl⟩;have hia:i < as.length:=by rwa [ag] at hlt
   have hie:i < ens.length:=by omega
   rw [aL,aH hia] at hx;cases hx;obtain ⟨r1,r2⟩:=ris.at i hie;have hb:=bg i hie;have hbk:=eb i as[i] _ (aH hia) hb;have okb:=lR hok (by omega) r1 r2;generalize (xs.drop ((0::ens).getD i 0)).take (ens.getD i 0 - (0::ens).getD i 0)=blk at hb hbk okb;obtain ⟨hbo,hb100⟩:=eE okb;have nok:∀ {Z:Prop},okB blk=false->Z:=λ h=>by rw [okb] at h;cases h
   obtain ⟨b5,brm⟩:=lO blk;have hkd:=xP blk;refine ⟨Wk.set rfl,tT ⟨_,rfl,as[i],blk,rfl,SqL.of (s3 _ _ hbk),by omega,nok,λ _ H4 s4=>?_⟩⟩;refine ⟨_,rfl,as[i],blk,_,rfl,SqL.of ((s3.trans s4) _ _ hbk),by omega,nok,λ _ hk=>absurd (cA hkd) hk,λ _ j hj hn=>?_,λ _ j hj hn H5 s5=>?_⟩
   ·have:j=ci blk:=eU gx hj hkd;subst this;rw [brm] at hn;cases hn
   ·have:j=ci blk:=eU gx hj hkd;subst this;refine cw hlt ⟨(s3.trans s4).trans s5,?_⟩;rw [List.take_add_one,hb];show _=((((cH xs 0 ens).take i)++[blk]).map fi).map V.str;rw [aJ,aJ];rfl
  ·rintro acc H3 ⟨s3,rfl⟩ l3 hl3;rw [la,← bl,aX];refine ⟨"", l3,(cH xs 0 ens).map fi,rfl,rfl,SqL.of af,?_,?_⟩
   ·have h64:=sr (l:=(cH xs 0 ens).map fi) (k:=200011) λ s hs=>by
     obtain ⟨b,hb,rfl⟩:=List.mem_map.mp hs;obtain ⟨i,hi⟩:=List.getElem?_of_mem hb;have hie:i < ens.length:=by
      have:=(al_gs.mp hi).1;omega
     rw [bg i hie] at hi;cases hi;obtain ⟨r1,r2⟩:=ris.at i hie;obtain ⟨x1,x2⟩:=eE (lR hok (by omega) r1 r2);exact qC (by omega) x1
    rw [ag,bl] at h64;have:200011 * ens.length<=200011 * 64:=Nat.mul_le_mul_left _ (by omega);show _+_ * 0<=16777216;omega
   ·rw [ie];exact k1 _ (az ((s1.trans s2).trans s3) hl3)
noncomputable def At(X:List Nat)(n:Nat)(L:List Nat):Prop:=∃ pre post,X=pre++(L++post)/\pre.length=n
theorem At.left(h:At X n (A++B)):At X n A:=by
 obtain ⟨pre,post,e,hl⟩:=h;exact ⟨pre,B++post,by rw [e,List.append_assoc],hl⟩
theorem At.right(h:At X n (A++B)):At X (n+A.length) B:=by
 obtain ⟨pre,post,e,hl⟩:=h;exact ⟨pre++A,post,by rw [e,List.append_assoc,List.append_assoc],by rw [bc,hl]⟩
theorem At.le(h:At X n L):n+L.length<=X.length:=by
 obtain ⟨pre,post,e,hl⟩:=h;rw [e,bc,bc];omega
theorem At.cut(h:At X n L):(X.drop n).take L.length=L:=by
 obtain ⟨pre,post,e,hl⟩:=h;subst hl;rw [e,List.drop_left,List.take_left]
theorem qJ(n:Nat):∀ w,bh (bq n w)
 | 0=>λ c h=>by cases h
 | w+1=>λ c h=>by
  rcases al_mc.mp (show c∈dH n w::bq n w from h) with e | h
  ·rw [e];unfold dH;split
   ·exact Or.inr rfl
   ·exact Or.inl rfl
  ·exact qJ n w c h
theorem r9(n:Nat):∀ (w a:Nat),(bq n w).foldl (λ acc c=>acc * 2+(c - 48)) a=a * 2 ^ w+n % 2 ^ w
 | 0,a=>by
  show a=a * 2 ^ 0+n % 2 ^ 0;rw [Nat.pow_zero,Nat.mul_one,Nat.mod_one];rfl
 | w+1,a=>by
  show (bq n w).foldl (λ acc c=>acc * 2+(c - 48)) (a * 2+(dH n w - 48))=_;rw [r9 n w];have eb:dH n w - 48=n / 2 ^ w % 2:=by
   unfold dH;by_cases h:n / 2 ^ w % 2=1
   ·rw [if_pos h,h]
   ·rw [if_neg h];omega
  rw [eb,Nat.mod_pow_succ,Nat.add_mul,Nat.pow_succ,Nat.mul_assoc,Nat.mul_comm 2 (2 ^ w),Nat.mul_comm (n / 2 ^ w % 2)];omega
theorem xR(n w:Nat):dX (bq n w)=n % 2 ^ w:=by
 unfold dX;rw [r9];omega
theorem xQ(n w:Nat):(bu n w).cps.toList=bq n w:=rfl
noncomputable def m6(X:Str)(n:Nat):List (Str × V):=[("text", .str X),("place", .int n)]
noncomputable def RdAt(C:Addr)(H:Hp)(r:Addr)(X:Str)(n:Nat):Prop:=∃ dx,H r=some (.ins C dx (m6 X n))
noncomputable def Kp(r:Addr)(H H':Hp):Prop:=∀ b o,b≠r->H b=some o->H' b=some o
theorem Kp.refl(r:Addr)(H:Hp):Kp r H H:=λ _ _ _ e=>e
theorem Kp.trans{H'':Hp}(a:Kp r H H')(b:Kp r H' H''):Kp r H H'':=λ c o n e=>b c o n (a c o n e)
theorem Kp.of(s:Same H H'):Kp r H H':=λ c o _ e=>s c o e
theorem Kp.own    : Kp r H (upd H r o):=λ c o' n e=>by rw [ai n];exact e
theorem RdAt.same{X:Str}(h:RdAt C H r X n)(s:Same H H'):RdAt C H' r X n:=by
 obtain ⟨dx,h⟩:=h;exact ⟨dx,s _ _ h⟩
theorem gA{X:Str}{b:Addr}(h:RdAt C H r X n)(hb:H b=none):b≠r:=λ z=>by
 obtain ⟨dx,h⟩:=h;rw [z,h] at hb;cases hb
theorem Kp.lst{X:Str}{xs:List V}(h:RdAt C H r X n)(k:Kp r H H')(e:H a=some (.lst xs)):H' a=some (.lst xs):=by
 refine k a _ (λ z=>?_) e;obtain ⟨dx,h⟩:=h;rw [z,h] at e;cases e
theorem Kp.new{l:Addr}(k:Kp r H H1)(h:H1 l=none):Kp r H (upd H1 l o):=λ b o' n e=>by
 have:=k b o' n e;rw [ai (aK this h)];exact this
theorem RdAt.new{l:Addr}{X:Str}(R:RdAt C H1 r X n)(h:H1 l=none):RdAt C (upd H1 l o) r X n:=by
 obtain ⟨dx,hR⟩:=id R;exact ⟨dx,by rw [ai (gA R h).symm];exact hR⟩
theorem Kp.free{l:Addr}{X:Str}(k:Kp r H H1)(R:RdAt C H1 r X n)(h:H1 l=none):H l=none:=by
 cases e:H l with
 | none=>rfl
 | some o=>rw [k l o (gA R h) e] at h;cases h
theorem RdAt.put{l:Addr}{X:Str}(R:RdAt C H1 r X n)(h:H1 l=some (.lst zs)):RdAt C (upd H1 l o) r X n:=by
 obtain ⟨dx,hR⟩:=R;exact ⟨dx,by rw [ai (λ z=>by rw [← z,hR] at h;cases h)];exact hR⟩
theorem Kp.put{l:Addr}(k:Kp r H H1)(h:H l=none):Kp r H (upd H1 l o):=λ b o' n e=>by
 rw [ai (aK e h)];exact k b o' n e
noncomputable def gd(t:Ad):Sp:=λ vs H Q E=>∃ (r:Addr) (X:Str) (n k:Nat),vs=[.ref r,.int k]/\RdAt t.aT H r X n/\bh X.cps.toList/\X.length<=16777216/\k<=640/\
 (n+k<=X.length->∀ H',Kp r H H'->RdAt t.aT H' r X (n+k)->Q (.int (dX ((X.cps.toList.drop n).take k))) H')/\(X.length < n+k->∀ H',Same H H'->E (.ref t.fm) none H')
theorem sc_Reader_take:aA ["self", "width", "end", "taken"] ["self", "width"] (av nu):=by walk_at "sc"
theorem zdp(T:Txt K mg t)(F:Fun K "take" "Reader.take" nu f fd):FnOk P w K mg base (CXr P w) 1 f fd ["self", "width"] (gd t):=by
 refine F.okX sc_Reader_take (λ vs H Q E h=>?_) (λ cdv A outer s H vs Q E hr h=>?_)
 ·obtain ⟨r,X,n,k,rfl,_⟩:=h;rfl
 ·obtain ⟨r,X,n,k,rfl,⟨dx,hR⟩,hb,hz,hk,q1,q2⟩:=h;have hz':X.length<=sizeLine:=by rw [sizeLine_eq];exact hz
  refine ⟨_,(ak (aE (i:=2) sc_Reader_take.nd rfl (Or.inl rfl) (aj a8 (eW K (pv 0) rfl) (pv 1)))
  (ak (aS (aG dh (pv 2) (aP lT (by rfl) T.bE PyProof.Rows.Boot.«len» (aa (eW K (pv 0) rfl) ad)) (aF _)) (ao (eF eG T.wg rfl (by rfl) T.mh (aa aD ad)))
   aY)
  (ak (aE (i:=3) sc_Reader_take.nd rfl (Or.inl rfl) (dk uM (eW K (pv 0) rfl) (cL (eW K (pv 0) rfl)) (cL (pv 2))))
  (ak (c6 (pv 0) (pv 2) rfl)
  (ao (ay (dj (aG dh (pv 1) ae (aF _)) (iu x5 (by rfl) T.mL PyProof.Rows.Boot.«int» (aa (pv 3) (aa ae ad))) ae))))))),?_⟩
  refine ⟨_,rfl,r,_,dx,_,_,rfl,hR,T.bQ,T.gj,rfl,_,rfl,_,_,rfl,rfl,?_⟩;refine ⟨_,rfl,_,rfl,r,_,dx,_,_,rfl,hR,T.bQ,T.iL,rfl,X,rfl,hz',_,_,rfl,rfl,_,rfl,?_⟩;by_cases c:X.length < n+k
  ·rw [aO (show (X.length:Int) < (n:Int)+(k:Int) by omega)];exact aw ⟨by show 1<=sizeLine;decide,q2 c H (Same.refl H)⟩
  ·rw [aM (show ¬ (X.length:Int) < (n:Int)+(k:Int) by omega)];refine ap ?_;refine ⟨_,rfl,r,_,dx,_,_,rfl,hR,T.bQ,T.iL,rfl,_,rfl,r,_,dx,_,_,rfl,hR,T.bQ,T.gj,rfl,_,rfl,_,rfl,_,rfl,X,n,n+k,rfl,rfl,rfl,by omega,by omega,hz',?_⟩;refine ⟨_,rfl,_,rfl,r,_,dx,_,rfl,hR,T.bQ,T.gj,by show 2 < 1000;decide,?_⟩;have hR':RdAt t.aT (upd H r (.ins t.aT dx (cX "place" (.int ((n:Int)+(k:Int))) (m6 X n)))) r X (n+k):=⟨dx,af⟩
   have q1:=q1 (by omega) _ Kp.own hR';refine ⟨_,rfl,_,_,rfl,rfl,_,rfl,?_⟩;by_cases c0:k=0
   ·subst c0;exact ap q1
   ·rw [aO (show (0:Int) < (k:Int) by omega)];have el:((X.cps.toList.drop n).take k).length=k:=by
     rw [be,List.length_drop,Array.length_toList];show min k (X.length - n)=k;omega
    have ec:n+k - n=k:=by omega
    refine aw ⟨_,rfl,_,rfl,?_,?_,?_,?_⟩
    ·intro c' hc';rw [ec] at hc';exact hb c' (List.mem_of_mem_drop (List.mem_of_mem_take hc'))
    ·intro z;have z:(X.cps.toList.drop n).take (n+k - n)=[]:=z;rw [ec] at z;rw [z] at el;exact c0 el.symm
    ·show ((X.cps.toList.drop n).take (n+k - n)).toArray.size<=640;rw [ec,aW,el];exact hk
    ·show Q (.int (dX ((X.cps.toList.drop n).take (n+k - n)))) _;rw [ec];exact q1
noncomputable def va(t:Ad):Sp:=λ vs H Q _=>∃ (r:Addr) (X:Str) (n:Nat),vs=[.ref r]/\RdAt t.aT H r X n/\X.length<=16777216/\Q (.bl (decide (n < X.length))) H
theorem ze3:aA ["self"] ["self"] (av nn):=by walk_at "sc"
theorem zcJ(T:Txt K mg t)(F:Fun K "has_more" "Reader.has_more" nn f fd):FnOk P w K mg base CX0 1 f fd ["self"] (va t):=by
 refine F.ok ze3 (λ vs H Q E h=>?_) (λ cdv A outer s H vs Q E hr h=>?_)
 ·obtain ⟨r,X,n,rfl,_⟩:=h;rfl
 ·obtain ⟨r,X,n,rfl,⟨dx,hR⟩,hz,q⟩:=h;have hz':X.length<=sizeLine:=by rw [sizeLine_eq];exact hz
  refine ⟨_,(ao (ay (fE kd (eW K (pv 0) rfl) (aP lT (by rfl) T.bE PyProof.Rows.Boot.«len» (aa (eW K (pv 0) rfl) ad)) (aF _)))),?_⟩;refine ⟨_,rfl,r,_,dx,_,_,rfl,hR,T.bQ,T.gj,rfl,_,rfl,r,_,dx,_,_,rfl,hR,T.bQ,T.iL,rfl,X,rfl,hz',_,_,rfl,rfl,?_⟩;have e:decide ((n:Int) < (X.length:Int))=decide (n < X.length):=by
   by_cases c:n < X.length
   ·rw [aO c,aO (show (n:Int) < (X.length:Int) by omega)]
   ·rw [aM c,aM (show ¬ (n:Int) < (X.length:Int) by omega)]
  show Q (.bl (decide ((n:Int) < (X.length:Int)))) H;rw [e];exact q
noncomputable def vy(t:Ad):Sp:=λ vs H Q _=>∃ (r:Addr) (X:Str) (b n:Nat),vs=[.ref r,.int b]/\RdAt t.aT H r X n/\X.length<=16777216/\b<=n/\n<=X.length/\Q (.str ⟨((X.cps.toList.drop b).take (n - b)).toArray⟩) H
theorem ze5:aA ["self", "place"] ["self", "place"] (av nv):=by walk_at "sc"
theorem zdq(T:Txt K mg t)(F:Fun K "taken_since" "Reader.taken_since" nv f fd):FnOk P w K mg base CX0 1 f fd ["self", "place"] (vy t):=by
 refine F.ok ze5 (λ vs H Q E h=>?_) (λ cdv A outer s H vs Q E hr h=>?_)
 ·obtain ⟨r,X,b,n,rfl,_⟩:=h;rfl
 ·obtain ⟨r,X,b,n,rfl,⟨dx,hR⟩,hz,hb,hn,q⟩:=h;have hz':X.length<=sizeLine:=by rw [sizeLine_eq];exact hz
  refine ⟨_,(ao (ay (dk uM (eW K (pv 0) rfl) (cL (pv 1)) (cL (eW K (pv 0) rfl))))),?_⟩;exact ⟨_,rfl,r,_,dx,_,_,rfl,hR,T.bQ,T.iL,rfl,_,rfl,_,rfl,_,rfl,r,_,dx,_,_,rfl,hR,T.bQ,T.gj,rfl,_,rfl,X,b,n,rfl,rfl,rfl,hb,hn,hz',q⟩
noncomputable def uR(t:Ad):Sp:=λ vs H Q E=>∃ (p dx:Addr) (X:Str),vs=[.ref p,.str X]/\H p=some (.ins t.aT dx [])/\X.length<=16777216/\
 (bh X.cps.toList->∀ H':Hp,RdAt t.aT H' p X 0->(∀ b,b≠p->H' b=H b)->Q .non H')/\(¬ bh X.cps.toList->∀ H',Same H H'->E (.ref t.fm) none H')
theorem qK:∀ l:List Nat,(l.count 48+l.count 49<=l.length)/\(l.count 48+l.count 49=l.length↔bh l)
 | []=>⟨Nat.le_refl _,⟨λ _ c h=>(by cases h),λ _=>rfl⟩⟩
 | c::r=>by
  obtain ⟨h1,h2⟩:=qK r;have hb:bh (c::r)↔(c=48\/c=49)/\bh r:=⟨λ h=>⟨h c b9,λ d hd=>h d (bp _ hd)⟩,λ h d hd=>(al_mc.mp hd).elim (λ e=>by rw [e];exact h.1) (h.2 d)⟩
  rw [hb,← h2,List.count_cons,List.count_cons,List.length_cons];by_cases e0:c=48
  ·subst e0;simp;omega
  ·by_cases e1:c=49
   ·subst e1;simp;omega
   ·have x0:(c == 48)=false:=by simpa using e0
    have x1:(c == 49)=false:=by simpa using e1
    rw [x0,x1];simp [e0,e1];omega
theorem ze4:aA ["self", "text"] ["self", "text"] (av nq):=by walk_at "sc"
theorem zck(T:Txt K mg t)(F:Fun K "__init__" "Reader.__init__" nq f fd):FnOk P w K mg base (CXr P w) 1 f fd ["self", "text"] (uR t):=by
 refine F.okX ze4 (λ vs H Q E h=>?_) (λ cdv A outer s H vs Q E hr h=>?_)
 ·obtain ⟨p,dx,X,rfl,_⟩:=h;rfl
 ·obtain ⟨p,dx,X,rfl,hp,hz,q1,q2⟩:=h;have hz':X.length<=sizeLine:=by rw [sizeLine_eq];exact hz
  refine ⟨_,(ak (aS (aG fD (aj a8 (cD K PySem.F.plainAttrs_str PySem.F.slot_str_count PySem.F.type_str_count sX (pv 1) (aa aD ad)) (cD K PySem.F.plainAttrs_str PySem.F.slot_str_count PySem.F.type_str_count sX (pv 1) (aa aD ad))) (aP lT (by rfl) T.bE PyProof.Rows.Boot.«len» (aa (pv 1) ad)) (aF _)) (ao (eF eG T.wg rfl (by rfl) T.mh (aa aD ad)))
   aY)
  (ak (c6 (pv 0) (pv 1) rfl)
  (ao (c6 (pv 0) ae rfl)))),?_⟩
  refine ⟨_,rfl,rfl,X, "0", rfl,rfl,_,rfl,rfl,X, "1", rfl,rfl,_,_,rfl,rfl,_,rfl,X,rfl,hz',rfl,_,rfl,?_⟩;rw [dec_int];have e0:Txt.count X "0" = ((X.cps.toList.count 48:Nat):Int):=by rw [sO];exact uK X 48
  have e1:Txt.count X "1" = ((X.cps.toList.count 49:Nat):Int):=by rw [sP];exact uK X 49
  have el:X.cps.toList.length=X.length:=Array.length_toList;obtain ⟨b1,b2⟩:=qK X.cps.toList;rw [e0,e1];by_cases c:bh X.cps.toList
  ·have:=b2.mpr c;rw [aO (show (((X.cps.toList.count 48:Nat):Int)+((X.cps.toList.count 49:Nat):Int))=(X.length:Int) by omega)];refine ap ?_;refine ⟨_,rfl,_,rfl,p,t.aT,dx,_,rfl,hp,T.bQ,T.iL,by show 0 < 1000;decide,?_⟩;refine ⟨_,rfl,p,t.aT,dx,_,rfl,af,T.bQ,T.gj,by show 1 < 1000;decide,?_⟩;exact q1 c _ ⟨dx,af⟩ λ b hb=>by rw [ai hb,ai hb]
  ·have:¬ X.cps.toList.count 48+X.cps.toList.count 49=X.cps.toList.length:=λ z=>c (b2.mp z);rw [aM (show ¬ (((X.cps.toList.count 48:Nat):Int)+((X.cps.toList.count 49:Nat):Int))=(X.length:Int) by omega)];exact aw ⟨by show 1<=sizeLine;decide,q2 c H (Same.refl H)⟩
theorem lV{o:OI}(h:okV o=true):T1.eO o < 2 ^ 24:=by
 cases o with
 | none=>show 0 < 2 ^ 24;decide
 | some i=>
  have:=T1.iq h;show (i+4000001).toNat < 2 ^ 24;omega
noncomputable def cM(rs:List (OI × Nat)):List OI:=(rs.map λ q=>List.replicate q.2 q.1).flatten
theorem kL(rs:List (OI × Nat))(q:OI × Nat):cM (rs++[q])=cM rs++List.replicate q.2 q.1:=by
 unfold cM;rw [aJ,List.flatten_append];simp
theorem zgL(rs:List (OI × Nat))(v:OI):cM (fM rs v)=cM rs++[v]:=by
 rcases List.eq_nil_or_concat rs with rfl | ⟨r,⟨u,k⟩,rfl⟩
 ·rfl
 ·rw [List.concat_eq_append,jh]
  split
  ·rename_i h
   subst h;rw [kL,kL,List.replicate_succ',List.append_assoc]
  ·rw [kL (r++[(u,k)]) (v,1)];rfl
theorem zgK(xs:List OI):cM (bO xs)=xs:=by
 have key:∀ n,n<=xs.length->cM (bO (xs.take n))=xs.take n:=by
  intro n;induction n with
  | zero=>intro _;rfl
  | succ n ih=>
   intro h;rw [cE h,jk,zgL,ih (by omega)]
 have:=key xs.length (Nat.le_refl _)
 rwa [aX] at this
theorem vY:∀ {rs:List (OI × Nat)} {q:OI × Nat},q∈rs->q.2<=(cM rs).length
 | a::r,q,h=>by
  have e:cM (a::r)=List.replicate a.2 a.1++cM r:=rfl;rw [e,bc,List.length_replicate];rcases al_mc.mp h with h | h
  ·subst h;omega
  ·have:=vY h;omega
theorem yW(d:Int):(if bD d % 2=0 then bD d / 2 else -(bD d / 2) - 1)=d:=by
 unfold bD;by_cases h:0<=d
 ·rw [if_pos h,if_pos (by omega)];omega
 ·rw [if_neg h,if_neg (by omega)];omega
theorem xq{X:Str}{v:Nat}(h:At X.cps.toList n (bq v k))(hv:v < 2 ^ k):n+k<=X.length/\dX ((X.cps.toList.drop n).take k)=v:=by
 have h1:=h.le;have h2:=h.cut;rw [dW] at h1 h2;rw [Array.length_toList] at h1;exact ⟨h1,by rw [h2,xR,Nat.mod_eq_of_lt hv]⟩
theorem dM{X:Str}{v:Nat}(R:RdAt t.aT H r X n)(hb:bh X.cps.toList)(hz:X.length<=16777216)(hk:k<=640)(h:At X.cps.toList n (bq v k))(hv:v < 2 ^ k)(q:∀ H',Kp r H H'->RdAt t.aT H' r X (n+k)->Q (.int (v:Int)) H'):gd t [.ref r,.int (k:Int)] H Q E:=by
 obtain ⟨h1,h2⟩:=xq h hv;refine ⟨r,X,n,k,rfl,R,hb,hz,hk,λ _ H' k' R'=>?_,λ z=>absurd h1 (by omega)⟩;rw [h2];exact q H' k' R'
theorem tk1{x v:V}(h:sp [x,v] H Q E):gG (tC v) fc σ H (λ vs H2=>sp (x::(vs++[])) H2 Q E):=h
theorem tkv{x v:V}{i:Nat}(hv:σ[i]?=some (some v))(h:sp [x,v] H Q E):gG (b8 i) fc σ H (λ vs H2=>sp (x::(vs++[])) H2 Q E):=⟨v,hv,h⟩
noncomputable def pI(t:Ad):Sp:=λ vs H Q _=>∃ (r:Addr) (X:Str) (n:Nat) (o:OI),vs=[.ref r]/\RdAt t.aT H r X n/\bh X.cps.toList/\X.length<=16777216/\okV o=true/\At X.cps.toList n (bJ o).cps.toList/\
 ∀ H',Kp r H H'->RdAt t.aT H' r X (n+24)->Q (ov o) H'
theorem sc_read_value:aA ["reader", "number"] ["reader"] (av oP):=by walk_at "sc"
theorem zdf(T:Txt K mg t)(CT:bB P w K mg base (CXr P w) 1 t.aT "take" ["self", "width"] (gd t))(F:Fun K "read_value" "read_value" oP f fd):FnOk P w K mg base CX0 3 f fd ["reader"] (pI t):=by
 obtain ⟨iS,iT,cN,cR,cO⟩:=CT;refine F.ok sc_read_value (λ vs H Q E h=>?_) (λ cdv A outer s H vs Q E hr h=>?_)
 ·obtain ⟨r,T,n,o,rfl,_⟩:=h;rfl
 ·obtain ⟨r,X,n,o,rfl,R,hb,hz,ho,ha,q⟩:=h;refine ⟨_,(ak (aE (i:=1) sc_read_value.nd rfl (Or.inl rfl) (bU (pv 0) T.bQ cR cN (hr.mono (by decide)) cO .nil cU (aa (bf T.fq) ad)))
  (ao (ay (dj (aG bM (pv 1) ae (aF _)) bN (aj bR (pv 1) (bf T.jZ)))))),?_⟩
  obtain ⟨dx,hR⟩:=id R;refine ⟨_,rfl,r,dx,_,rfl,hR,rfl,tk1 (dM (k:=24) R hb hz (by decide) ha (lV ho) λ H1 k1 R1=>?_)⟩;have q:=q H1 k1 R1;refine ⟨_,rfl,rfl,_,rfl,?_⟩;rw [dec_int];cases o with
  | none=>exact aw q
  | some i=>
   have hi:=iq ho;have ec:((eO (some i):Nat):Int)=i+4000001:=by
    show (((i+4000001).toNat:Nat):Int)=_;omega
   rw [ec,aM (show ¬ i+4000001=0 by omega)];refine ap ⟨_,rfl,_,_,rfl,rfl,?_⟩;show Q (.int (i+4000001 - 4000001)) H1;rw [show i+4000001 - 4000001=i by omega];exact q
theorem zd7(xs:List OI):(c8 xs).cps.toList=(xs.map λ o=>(bJ o).cps.toList).flatten:=by
 unfold c8;rw [dZ,List.map_map];rfl
theorem jM{α:Type}{f:α->List Nat}{k:Nat}{X:List Nat}:∀ {l:List α} {n:Nat},(∀ a,(f a).length=k)->At X n ((l.map f).flatten)->∀ (i:Nat) (a:α),l[i]?=some a->At X (n+k * i) (f a)
 | b::r,n,hk,h,0,a,e=>by
  cases e;rw [List.map_cons,List.flatten_cons] at h;rw [Nat.mul_zero];exact h.left
 | b::r,n,hk,h,i+1,a,e=>by
  rw [List.map_cons,List.flatten_cons] at h;have:=jM (l:=r) hk h.right i a e;rw [hk b] at this;rw [show n+k * (i+1)=n+k+k * i by rw [Nat.mul_succ];omega];exact this
noncomputable def kD(t:Ad):Sp:=λ vs H Q _=>∃ (r:Addr) (X:Str) (n:Nat) (xs:List OI),vs=[.ref r,.int xs.length]/\RdAt t.aT H r X n/\bh X.cps.toList/\X.length<=16777216/\xs.length<=1000/\xs.all okV=true/\At X.cps.toList n (c8 xs).cps.toList/\
 ∀ (l:Addr) (H':Hp),Kp r H H'->H l=none->RdAt t.aT H' r X (n+24 * xs.length)->H' l=some (.lst (xs.map ov))->Q (.ref l) H'
theorem zbW:(["place", "reader"]:List Str).Nodup:=by decide +kernel
theorem zfu:aA ["reader", "length"] ["reader", "length"] (av oM):=by walk_at "sc"
theorem zdc(T:Txt K mg t)(gN:Cal P w K mg base CX0 3 "read_value" ["reader"] (pI t))(F:Fun K "read_plain" "read_plain" oM f fd):FnOk P w K mg base CX0 4 f fd ["reader", "length"] (kD t):=by
 refine F.ok zfu (λ vs H Q E h=>?_) (λ cdv A outer s H vs Q E hr h=>?_)
 ·obtain ⟨r,T,n,xs,rfl,_⟩:=h;rfl
 ·obtain ⟨r,X,n,xs,rfl,R,hb,hz,hl,hok,ha,q⟩:=h;rw [zd7] at ha;have hv:=λ i a e=>jM (f:=λ o=>(bJ o).cps.toList) (k:=24) (λ o=>by show (bq _ _).toArray.toList.length=24;exact dW _ _) ha i a e;refine ⟨_,(ao (ay (bX (N:=["place", "reader"]) (fr:=[none,some 0]) ⟨rfl,rfl,rfl,rfl,rfl,rfl⟩ rfl (eX (by rfl) T.d4 (aa (pv 1) ad))
    (λ C fp s H=>⟨aR (i:=0) zbW rfl (Or.inl rfl),bz,(gN.pe hr ax (aa (pv 1) ad))⟩)))),?_⟩
  refine ⟨_,rfl,_,rfl,by omega,by omega,?_⟩;rw [Int.toNat_natCast];refine ⟨gq (λ i acc H'=>Kp r H H'/\RdAt t.aT H' r X (n+24 * i)/\acc=(xs.take i).map ov) ⟨Kp.refl _ _,R,rfl⟩ (λ i acc H' hi hp=>by rw [hp.2.2,ag,be];omega) (Nat.le_of_lt (a9 hl)) ?_ ?_⟩
  ·rintro i acc H1 hi ⟨k1,R1,rfl⟩;refine ⟨Wk.set rfl,tT ⟨_,rfl,r,X,n+24 * i,at' xs i,rfl,R1,hb,hz,List.all_eq_true.mp hok _ (cA (getD_at' hi)),hv i _ (getD_at' hi),λ H2 k2 R2=>cw hi ⟨k1.trans k2,?_,?_⟩⟩⟩
   ·rw [show n+24 * (i+1)=n+24 * i+24 by omega];exact R2
   ·rw [cE hi,aJ];rfl
  ·rintro acc H1 ⟨k1,R1,rfl⟩ l hln;rw [aX];exact q l _ (k1.new hln) (k1.free R1 hln) (R1.new hln) af
noncomputable def e9(t:Ad)(j:Nat):Sp:=λ vs H Q _=>∃ (r:Addr) (X:Str) (n:Nat) (xs:List OI),vs=[.ref r,.int xs.length]/\RdAt t.aT H r X n/\bh X.cps.toList/\X.length<=16777216/\okB xs=true/\rm xs j≠.none/\At X.cps.toList n (cP j xs).cps.toList/\
 ∀ (l:Addr) (H':Hp),Kp r H H'->H l=none->RdAt t.aT H' r X (n+(cP j xs).length)->H' l=some (.lst (xs.map ov))->Q (.ref l) H'
theorem zeK{vs:List V}(h:e9 t 0 vs H Q E):kD t vs H Q E:=by
 obtain ⟨r,X,n,xs,e,R,hb,hz,okb,_,ha,q⟩:=h;obtain ⟨h1,h2⟩:=eE okb;refine ⟨r,X,n,xs,e,R,hb,hz,by omega,h1,ha,λ l H' k hn R' h'=>q l H' k hn ?_ h'⟩;show RdAt t.aT H' r X (n+(c8 xs).length);rw [ki];exact R'
theorem zeU(q:OI × Nat):(cS q).cps.toList=(bJ q.1).cps.toList++bq (q.2 - 1) 8:=by
 unfold cS;rw [cZ,xQ]
theorem zeV(q:OI × Nat):(cS q).cps.toList.length=32:=by
 rw [Array.length_toList];exact mP q
theorem sc_read_runs:aA ["reader", "length", "values", "place", "value", "times"] ["reader", "length"] (av oN):=by walk_at "sc"
theorem zdd(T:Txt K mg t)(CT:bB P w K mg base (CXr P w) 1 t.aT "take" ["self", "width"] (gd t))(gN:Cal P w K mg base CX0 3 "read_value" ["reader"] (pI t))(F:Fun K "read_runs" "read_runs" oN f fd):
  FnOk P w K mg base CX0 4 f fd ["reader", "length"] (e9 t 1):=by
 obtain ⟨iS,iT,cN,cR,cO⟩:=CT;refine F.ok sc_read_runs (λ vs H Q E h=>?_) (λ cdv A outer s H vs Q E hr h=>?_)
 ·obtain ⟨r,T,n,xs,rfl,_⟩:=h;rfl
 ·obtain ⟨r,X,n,xs,rfl,R,hb,hz,okb,_,ha,q⟩:=h;obtain ⟨hok,h100⟩:=eE okb;have h0:=fB okb;have hlen:(cP 1 xs).length=8+32 * (bO xs).length:=uE xs;rw [hlen] at q;have ha:At X.cps.toList n (bq ((bO xs).length - 1) 8++((bO xs).map λ q=>(cS q).cps.toList).flatten):=by
   have e:(cP 1 xs).cps.toList=bq ((bO xs).length - 1) 8++((bO xs).map λ q=>(cS q).cps.toList).flatten:=by
    show (gB xs).cps.toList=_;unfold gB;rw [cZ,dZ,List.map_map];rfl
   rw [← e];exact ha
  have hfacts:=uF xs;have hpos:=uG h0;have hle:=jj xs;have hun:=zgK xs;generalize bO xs=rs at q ha hfacts hpos hle hun;have ha2:=ha.right;rw [dW] at ha2;have hv:=λ i a e=>jM (f:=λ q=>(cS q).cps.toList) (k:=32) zeV ha2 i a e;refine ⟨_,(ak (aE (i:=2) sc_read_runs.nd rfl (Or.inl rfl) (bS ad))
  (ak (fK PassesOwn.never rfl (eX (by rfl) T.d4 (aa (aj a8 (bU (pv 0) T.bQ cR cN (hr.mono (by decide)) cO .nil cU (aa (bf T.mr) ad)) ae) ad)) (aR (i:=3) sc_read_runs.nd rfl (Or.inl rfl))
   (ak (aE (i:=4) sc_read_runs.nd rfl (Or.inl rfl) (gN.pe hr ax (aa (pv 0) ad)))
  (ak (aE (i:=5) sc_read_runs.nd rfl (Or.inl rfl) (aj a8 (bU (pv 0) T.bQ cR cN (hr.mono (by decide)) cO .nil cU (aa (bf T.ms) ad)) ae))
  (ao (bV (cD K PySem.F.plainAttrs_list PySem.F.slot_list_extend PySem.F.type_list_extend sV (pv 2) (aa (aj mS (bS (aa (pv 4) ad)) (pv 5)) ad)))))))
  (ao (ay (pv 2))))),?_⟩
  refine ⟨aB rfl,λ l hln=>?_⟩;have R1:=R.new (o:=.lst []) hln;have k1:Kp r H (upd H l (.lst [])):=(Kp.refl r H).new hln;have h1:(upd H l (.lst [])) l=some (.lst (([]:List OI).map ov)):=af;have nlr:=gA R hln;generalize upd H l (.lst [])=H1 at R1 k1 h1;obtain ⟨dx,hR1⟩:=id R1;refine ⟨_,rfl,r,dx,_,rfl,hR1,rfl,tk1 (dM (k:=8) R1 hb hz (by decide) ha.left (show rs.length - 1 < 2 ^ 8 by omega) λ H2 k2 R2=>?_)⟩;have h2:=k2 l _ nlr h1;refine ⟨_,_,rfl,rfl,_,rfl,by omega,by omega,?_⟩;rw [show (((rs.length - 1:Nat):Int)+1).toNat=rs.length by omega];refine ⟨jW (λ i σ H'=>∃ v3 v4 v5:Option V,σ=[some (.ref r),some (.int xs.length),some (.ref l),v3,v4,v5]/\Kp r H H'/\RdAt t.aT H' r X (n+8+32 * i)/\H' l=some (.lst ((cM (rs.take i)).map ov))) ⟨none,none,none,rfl,k1.trans k2,R2,h2⟩ ?_ ?_⟩
  ·rintro i σ H3 hi ⟨v3,v4,v5,rfl,k3,R3,h3⟩;have ex:rs[i]?=some rs[i]:=aH hi;obtain ⟨f1,f2⟩:=hfacts rs[i].1 rs[i].2 (List.getElem_mem hi);have hav:=hv i _ ex;rw [zeU] at hav;have hk256:rs[i].2 - 1 < 2 ^ 8:=by
    have hsum:rs[i].2<=(cM rs).length:=vY (List.getElem_mem hi);rw [hun] at hsum;omega
   have vl:((bJ rs[i].1).cps.toList).length=24:=by rw [Array.length_toList];exact gH _
   have hav2:=hav.right;rw [vl] at hav2;refine ⟨_,rfl,r,X,_,rs[i].1,rfl,R3,hb,hz,List.all_eq_true.mp hok _ f1,hav.left,λ H4 k4 R4=>?_⟩;obtain ⟨dx4,hR4⟩:=id R4;refine ⟨_,rfl,r,dx4,_,rfl,hR4,rfl,tk1 (dM (k:=8) R4 hb hz (by decide) hav2 hk256 λ H5 k5 R5=>?_)⟩;have h5:=(k4.trans k5) l _ nlr h3;refine ⟨_,_,rfl,rfl,?_⟩;have etm:((rs[i].2 - 1:Nat):Int)+1=((rs[i].2:Nat):Int):=by omega
   have k5':=(k3.trans k4).trans k5;have hkl:(cM (rs.take i)).length<=100:=by
    have:cM rs=cM (rs.take i)++cM (rs.drop i):=by
     unfold cM;rw [← List.flatten_append,← aJ,List.take_append_drop]
    rw [hun] at this;have:=congrArg List.length this;rw [bc] at this;omega
   refine ⟨_,rfl,.inl ⟨rfl,_,SqL.of h5⟩,_,rfl,aB rfl,λ a1 ha1=>⟨_,rfl,a1,_,_,rfl,rfl,af,by omega,by omega,?_,λ a2 ha2=>?_⟩⟩
   ·rw [dF];exact Nat.le_of_lt (a9 (by omega))
   have n1:l≠a1:=aK h5 ha1;have h6:(upd H5 a1 (.lst [ov rs[i].1])) l=some (.lst ((cM (rs.take i)).map ov)):=by rw [ai n1];exact h5
   have n2:l≠a2:=aK h6 ha2;have R6:=(R5.new (o:=.lst [ov rs[i].1]) ha1).new (o:=.lst (List.replicate (((rs[i].2 - 1:Nat):Int)+1).toNat [ov rs[i].1]).flatten) ha2;have h7:(upd (upd H5 a1 (.lst [ov rs[i].1])) a2 (.lst (List.replicate (((rs[i].2 - 1:Nat):Int)+1).toNat [ov rs[i].1]).flatten)) l=some (.lst ((cM (rs.take i)).map ov)):=by rw [ai n2];exact h6
   have tk:rs.take (i+1)=rs.take i++[rs[i]]:=by rw [List.take_add_one,ex];rfl
   refine ⟨l,a2,_,_,rfl,rfl,h7,af,?_,_,_,_,rfl,((k5'.new ha1).new ha2).put hln,?_,?_⟩
   ·rw [ag,sL,dF];exact Nat.le_of_lt (a9 (by omega))
   ·rw [show n+8+32 * (i+1)=n+8+32 * i+24+8 by omega];exact R6.put h7
   ·rw [af,List.flatten_replicate_singleton,tk,kL,aJ,List.map_replicate,show (((rs[i].2 - 1:Nat):Int)+1).toNat=rs[i].2 by omega]
  ·rintro σ H3 ⟨v3,v4,v5,rfl,k3,R3,h3⟩;rw [aX,hun] at h3;refine ⟨_,rfl,q l H3 k3 hln ?_ h3⟩;rw [← Nat.add_assoc];exact R3
theorem tE{i:Nat}(h:i<=n):i < 2 ^ aI n:=by
 rw [mK];by_cases e:n=0
 ·rw [if_pos e];have:i=0:=by omega
  subst this;decide
 ·rw [if_neg e];exact Nat.lt_of_le_of_lt h Nat.lt_log2_self
theorem rm2(h:rm xs 2≠.none):(aq xs).book.length<=64:=by
 by_cases c:64 < (aq xs).book.length
 ·refine absurd ?_ h;show gh (if 64 < (aq xs).book.length then .none else _)=_;rw [if_pos c];rfl
 ·omega
theorem lM{g:α->Nat}{l:List α}(h:At X n ((l.map λ a=>(bu (g a) k).cps.toList).flatten))(i:Nat)(a:α)(e:l[i]?=some a):At X (n+k * i) (bq (g a) k):=
 jM (f:=λ a=>(bu (g a) k).cps.toList) (λ a=>by show (bq _ _).toArray.toList.length=k;exact dW _ _) h i a e
theorem zbV:(["place", "width", "reader"]:List Str).Nodup:=by decide +kernel
theorem zbU:(["number", "book"]:List Str).Nodup:=by decide +kernel
theorem sc_read_book:aA ["reader", "length", "entries", "book", "width", "numbers"] ["reader", "length"] (av oK):=by walk_at "sc"
theorem zdb(T:Txt K mg t)(CT:bB P w K mg base (CXr P w) 1 t.aT "take" ["self", "width"] (gd t))(jC:Cal P w K mg base CX0 4 "read_plain" ["reader", "length"] (kD t))(dO:Cal P w K mg base CX0 1 "needed" ["number"] gE)(F:Fun K "read_book" "read_book" oK f fd):FnOk P w K mg base CX0 5 f fd ["reader", "length"] (e9 t 2):=by
 obtain ⟨iS,iT,cN,cR,cO⟩:=CT;refine F.ok sc_read_book (λ vs H Q E h=>?_) (λ cdv A outer s H vs Q E hr h=>?_)
 ·obtain ⟨r,T,n,xs,rfl,_⟩:=h;rfl
 ·obtain ⟨r,X,n,xs,rfl,R,hb,hz,okb,hrm,ha,q⟩:=h;obtain ⟨hok,h100⟩:=eE okb;have h0:=fB okb;have hlen:(cP 2 xs).length=6+24 * (aq xs).book.length+aI ((aq xs).book.length - 1) * xs.length:=qT xs;rw [hlen] at q;have ha:At X.cps.toList n (bq ((aq xs).book.length - 1) 6++((c8 (aq xs).book).cps.toList++(xs.map λ v=>(bu ((aq xs).book.idxOf v) (aI ((aq xs).book.length - 1))).cps.toList).flatten)):=by
   have e:(cP 2 xs).cps.toList=bq ((aq xs).book.length - 1) 6++((c8 (aq xs).book).cps.toList++(xs.map λ v=>(bu ((aq xs).book.idxOf v) (aI ((aq xs).book.length - 1))).cps.toList).flatten):=by
    show (gl xs).cps.toList=_;unfold gl;rw [cZ,cZ,dZ,List.map_map,List.append_assoc];rfl
   rw [← e];exact ha
  have h64:=rm2 hrm;have hle:=qU xs;have hmem:=mF (xs:=xs) xs.length;rw [aX] at hmem;generalize (aq xs).book=ws at q ha h64 hle hmem;have hpos:0 < ws.length:=List.length_pos_of_mem ((hmem _ (Nat.le_refl _)).mpr (cA (getD_at' h0)));have okw:ws.all okV=true:=List.all_eq_true.mpr λ v hv=>List.all_eq_true.mp hok v ((hmem v (Nat.le_refl _)).mp hv);have hw:aI (ws.length - 1)<=6:=gy (by omega);have ha2:=ha.right;rw [dW] at ha2;have ha3:=ha2.right;rw [Array.length_toList,show (c8 ws).cps.size=24 * ws.length from ki ws] at ha3;have hv:=λ i a e=>lM ha3 i a e;refine ⟨_,(ak (aE (i:=2) sc_read_book.nd rfl (Or.inl rfl) (aj a8 (bU (pv 0) T.bQ cR cN (hr.mono (by decide)) cO .nil cU (aa (bf T.mn) ad)) ae))
  (ak (aE (i:=3) sc_read_book.nd rfl (Or.inr rfl) (jC.pe hr ax (aa (pv 0) (aa (pv 2) ad))))
  (ak (aE (i:=4) sc_read_book.nd rfl (Or.inr rfl) (dO.pe hr ax (aa (aj bR (pv 2) ae) ad)))
  (ak (gz (i:=5) sc_read_book.nd rfl (Or.inl rfl) (N:=["place", "width", "reader"]) (fr:=[none,some 4,some 0]) ⟨rfl,rfl,rfl,rfl,rfl,rfl⟩ rfl (eX (by rfl) T.d4 (aa (pv 1) ad))
    (λ C fp s H=>⟨aR (i:=0) zbV rfl (Or.inl rfl),bz,(bU (pv 2) T.bQ cR cN (hr.mono (by decide)) cO .nil cU (aa (pv 1) ad))⟩))
  (ak (aS (aG mR (aP (q5 K rfl) (by rfl) T.i5 PyProof.Rows.Boot.«max» (aa (pv 5) ad)) (pv 2) (aF _)) ko
   aY)
  (ao (ay (bX (N:=["number", "book"]) (fr:=[none,some 3]) ⟨rfl,rfl,rfl,rfl,rfl,rfl⟩ rfl (bY (pv 5))
    (λ C fp s H=>⟨aR (i:=0) zbU rfl (Or.inl rfl),bz,(aN (bK K) (pv 1) (pv 0) (λ _ _=>rfl))⟩))))))))),?_⟩
  obtain ⟨dx,hR⟩:=id R;refine ⟨_,rfl,r,dx,_,rfl,hR,rfl,tk1 (dM (k:=6) R hb hz (by decide) ha.left (show ws.length - 1 < 2 ^ 6 by omega) λ H1 k1 R1=>?_)⟩;have ew:((ws.length - 1:Nat):Int)+1=(ws.length:Int):=by omega
  refine ⟨_,_,rfl,rfl,_,rfl,_,rfl,r,X,n+6,ws,?_,R1,hb,hz,by omega,okw,ha2.left,λ lb H2 k2 hlb R2 h2=>?_⟩
  ·show [V.ref r,V.int (((ws.length - 1:Nat):Int)+1)]=_;rw [ew]
  have k12:=k1.trans k2;have hlb0:=k1.free R1 hlb;have nlb:lb≠r:=gA R1 hlb;refine ⟨_,rfl,_,_,rfl,rfl,_,rfl,by omega,?_⟩;have en:(((ws.length - 1:Nat):Int)+1 - 1).toNat=ws.length - 1:=by omega
  rw [en];refine ⟨_,rfl,_,rfl,by omega,by omega,?_⟩;rw [Int.toNat_natCast];refine ⟨gq (λ i acc H'=>Kp r H2 H'/\RdAt t.aT H' r X (n+6+24 * ws.length+aI (ws.length - 1) * i)/\acc=((xs.take i).map λ v=>((ws.idxOf v:Nat):Int)).map V.int) ⟨Kp.refl _ _,R2,rfl⟩ (λ i acc H' hi hp=>by rw [hp.2.2,ag,ag,be];omega) (Nat.le_of_lt (a9 (by omega))) ?_ ?_⟩
  ·rintro i acc H3 hi ⟨k3,R3,rfl⟩;obtain ⟨dx3,hR3⟩:=id R3;have hm:at' xs i∈ws:=(hmem _ (Nat.le_refl _)).mpr (cA (getD_at' hi));have hix:ws.idxOf (at' xs i) < ws.length:=List.idxOf_lt_length_of_mem hm;refine ⟨Wk.set rfl,tT ⟨_,rfl,r,dx3,_,rfl,hR3,rfl,tkv rfl (dM (k:=aI (ws.length - 1)) R3 hb hz (by omega) (hv i _ (getD_at' hi)) (tE (i:=ws.idxOf (at' xs i)) (n:=ws.length - 1) (by omega)) λ H4 k4 R4=>cw hi ⟨k3.trans k4,?_,?_⟩)⟩⟩
   ·rw [Nat.mul_succ,← Nat.add_assoc];exact R4
   ·rw [cE hi,aJ,aJ];rfl
  ·rintro acc H3 ⟨k3,R3,rfl⟩ ln hln;rw [aX];have k4:=k3.new (o:=.lst ((xs.map λ v=>((ws.idxOf v:Nat):Int)).map V.int)) hln;have R4:=R3.new (o:=.lst ((xs.map λ v=>((ws.idxOf v:Nat):Int)).map V.int)) hln;have h4:(upd H3 ln (.lst ((xs.map λ v=>((ws.idxOf v:Nat):Int)).map V.int))) ln=some (.lst ((xs.map λ v=>((ws.idxOf v:Nat):Int)).map V.int)):=af;generalize upd H3 ln (.lst ((xs.map λ v=>((ws.idxOf v:Nat):Int)).map V.int))=H4 at k4 R4 h4;have b4:=k4 lb _ nlb h2;obtain ⟨M,hM⟩:=mE (l:=xs.map λ v=>((ws.idxOf v:Nat):Int)) (by intro z;rw [List.map_eq_nil_iff.mp z] at h0;cases h0);have hMm:=j7 hM;have hMlt:M < (ws.length:Int):=by
    obtain ⟨v,hv',rfl⟩:=List.mem_map.mp hMm;have:=List.idxOf_lt_length_of_mem ((hmem v (Nat.le_refl _)).mpr hv');omega
   refine ⟨_,rfl,ln,_,M,rfl,SqL.of h4,hMm,mD hM,_,rfl,_,_,rfl,rfl,_,rfl,?_⟩;rw [aM (show ¬ (((ws.length - 1:Nat):Int)+1)<=M by omega)];refine ap ?_;refine ⟨_,rfl,ln,rfl,⟨_,SqL.of h4⟩,⟨cB (xs:=(xs.map λ v=>((ws.idxOf v:Nat):Int)).map V.int) (λ i acc H'=>Same H4 H'/\acc=(xs.take i).map ov) ⟨Same.refl _,rfl⟩ ?_ ?_ ?_ ?_⟩⟩
   ·rintro i acc H5 hi ⟨s5,rfl⟩;refine ⟨SqL.of (s5 _ _ h4),?_⟩;rw [ag,be];omega
   ·rw [ag,ag];exact Nat.le_of_lt (a9 (by omega))
   ·rintro i y acc H5 hx hlt ⟨s5,rfl⟩;have hlt':i < xs.length:=by rwa [ag,ag] at hlt
    rw [aL,aL,getD_at' hlt'] at hx;cases hx;have hm:at' xs i∈ws:=(hmem _ (Nat.le_refl _)).mpr (cA (getD_at' hlt'));have hix:ws.idxOf (at' xs i) < ws.length:=List.idxOf_lt_length_of_mem hm;have a1:atI (ws.map ov) ((ws.idxOf (at' xs i):Nat):Int)=some (ov (at' xs i)):=dG (by rw [aL,aH hix,List.getElem_idxOf hix];rfl);refine ⟨Wk.set rfl,tT ⟨_,rfl,_,rfl,lb,_,_,_,rfl,rfl,SqL.of (s5 _ _ b4),a1,cw hlt ⟨s5,?_⟩⟩⟩;rw [cE hlt',aJ];rfl
   ·rintro acc H5 ⟨s5,rfl⟩ l hl5;rw [ag,ag,aX];have k5:Kp r H H5:=(k12.trans k4).trans (Kp.of s5);have R5:=R4.same s5;refine q l _ (k5.new hl5) (k5.free R5 hl5) ?_ af;rw [show n+(6+24 * ws.length+aI (ws.length - 1) * xs.length)=n+6+24 * ws.length+aI (ws.length - 1) * xs.length by omega];exact R5.new hl5
theorem rT(h:At X n (df ns).cps.toList):At X n (bq (aI (bb ns).toNat) 5)/\At X (n+5) ((ns.map λ m=>(bu m.toNat (aI (bb ns).toNat)).cps.toList).flatten):=by
 have e:(df ns).cps.toList=bq (aI (bb ns).toNat) 5++(ns.map λ m=>(bu m.toNat (aI (bb ns).toNat)).cps.toList).flatten:=by
  unfold df;rw [cZ,dZ,List.map_map];rfl
 rw [e] at h;have h2:=h.right;rw [dW] at h2;exact ⟨h.left,h2⟩
theorem vU(h:m∈ns):m.toNat < 2 ^ aI (bb ns).toNat:=by
 have:=zgy ns m (bp _ h);exact tE (by omega)
theorem zbT:(["place", "width", "reader"]:List Str).Nodup:=by decide +kernel
theorem zbS:(["number", "least"]:List Str).Nodup:=by decide +kernel
theorem sc_read_base:aA ["reader", "length", "least", "width", "numbers"] ["reader", "length"] (av oI):=by walk_at "sc"
theorem zc9(T:Txt K mg t)(CT:bB P w K mg base (CXr P w) 1 t.aT "take" ["self", "width"] (gd t))(F:Fun K "read_base" "read_base" oI f fd):FnOk P w K mg base CX0 3 f fd ["reader", "length"] (e9 t 3):=by
 obtain ⟨iS,iT,cN,cR,cO⟩:=CT;refine F.ok sc_read_base (λ vs H Q E h=>?_) (λ cdv A outer s H vs Q E hr h=>?_)
 ·obtain ⟨r,T,n,xs,rfl,_⟩:=h;rfl
 ·obtain ⟨r,X,n,xs,rfl,R,hb,hz,okb,hrm,ha,q⟩:=h;obtain ⟨hok,h100⟩:=eE okb;have h0:=fB okb;have hlen:(cP 3 xs).length=24+(5+aI (bb (xs.map (above (aV xs)))).toNat * xs.length):=xN xs;rw [hlen] at q;have ha:At X.cps.toList n ((bJ (some (aV xs))).cps.toList++(df (xs.map (above (aV xs)))).cps.toList):=by
   have e:(cP 3 xs).cps.toList=(bJ (some (aV xs))).cps.toList++(df (xs.map (above (aV xs)))).cps.toList:=by
    show (fS xs).cps.toList=_;unfold fS;rw [cZ]
   rw [← e];exact ha
  have hlo:=mz hok;have hli:=iq hlo;have hab:=jL hok;have ha2:=ha.right;rw [Array.length_toList,show (bJ (some (aV xs))).cps.size=24 from gH _] at ha2;obtain ⟨e1,e2⟩:=rT ha2;obtain ⟨t0,t1⟩:=kK (k:=2 ^ 30) (by decide) hab;have hw:aI (bb (xs.map (above (aV xs)))).toNat<=30:=gy (by omega);have hv:=λ i a e=>lM e2 i a e;have htl:=λ m h=>vU (ns:=xs.map (above (aV xs))) (m:=m) h;generalize aI (bb (xs.map (above (aV xs)))).toNat=wd at q e1 e2 hw hv htl;refine ⟨_,(ak (aE (i:=2) sc_read_base.nd rfl (Or.inr rfl) (aj bR (bU (pv 0) T.bQ cR cN (hr.mono (by decide)) cO .nil cU (aa (bf T.fq) ad)) (bf T.jZ)))
  (ak (aE (i:=3) sc_read_base.nd rfl (Or.inr rfl) (bU (pv 0) T.bQ cR cN (hr.mono (by decide)) cO .nil cU (aa (bf T.iV) ad)))
  (ak (gz (i:=4) sc_read_base.nd rfl (Or.inl rfl) (N:=["place", "width", "reader"]) (fr:=[none,some 3,some 0]) ⟨rfl,rfl,rfl,rfl,rfl,rfl⟩ rfl (eX (by rfl) T.d4 (aa (pv 1) ad))
    (λ C fp s H=>⟨aR (i:=0) zbT rfl (Or.inl rfl),bz,(bU (pv 2) T.bQ cR cN (hr.mono (by decide)) cO .nil cU (aa (pv 1) ad))⟩))
  (ao (ay (bX (N:=["number", "least"]) (fr:=[none,some 2]) ⟨rfl,rfl,rfl,rfl,rfl,rfl⟩ rfl (bY (pv 4))
    (λ C fp s H=>⟨aR (i:=0) zbS rfl (Or.inl rfl),bz,(dj (aG bM (pv 0) ae (aF _)) bN (aj bR (aj a8 (pv 1) (pv 0)) ae))⟩))))))),?_⟩
  obtain ⟨dx,hR⟩:=id R;refine ⟨_,rfl,r,dx,_,rfl,hR,rfl,tk1 (dM (k:=24) R hb hz (by decide) ha.left (lV hlo) λ H1 k1 R1=>?_)⟩;have ec:((eO (some (aV xs)):Nat):Int) - 4000001=aV xs:=by
   show (((aV xs+4000001).toNat:Nat):Int) - 4000001=_;omega
  obtain ⟨dx1,hR1⟩:=id R1;refine ⟨_,_,rfl,rfl,_,rfl,r,dx1,_,rfl,hR1,rfl,tk1 (dM (k:=5) R1 hb hz (by decide) e1 (show wd < 2 ^ 5 by omega) λ H2 k2 R2=>?_)⟩;refine ⟨_,rfl,_,rfl,by omega,by omega,?_⟩;rw [Int.toNat_natCast];refine ⟨gq (λ i acc H'=>Kp r H2 H'/\RdAt t.aT H' r X (n+24+5+wd * i)/\acc=((xs.map (above (aV xs))).take i).map V.int) ⟨Kp.refl _ _,R2,rfl⟩ (λ i acc H' hi hp=>by rw [hp.2.2,ag,be];omega) (Nat.le_of_lt (a9 (by omega))) ?_ ?_⟩
  ·rintro i acc H3 hi ⟨k3,R3,rfl⟩;obtain ⟨dx3,hR3⟩:=id R3;have ex:(xs.map (above (aV xs)))[i]?=some (above (aV xs) (at' xs i)):=by rw [aL,getD_at' hi];rfl
   have hmem:=cA ex;obtain ⟨n0,_⟩:=hab _ hmem;refine ⟨Wk.set rfl,tT ⟨_,rfl,r,dx3,_,rfl,hR3,rfl,tkv rfl (dM (k:=wd) R3 hb hz (by omega) (hv i _ ex) (htl _ hmem) λ H4 k4 R4=>cw hi ⟨k3.trans k4,?_,?_⟩)⟩⟩
   ·rw [Nat.mul_succ,← Nat.add_assoc];exact R4
   ·rw [List.take_add_one,ex,aJ,Int.toNat_of_nonneg n0];rfl
  ·rintro acc H3 ⟨k3,R3,rfl⟩ ln hln;have ell:(xs.map (above (aV xs))).take xs.length=xs.map (above (aV xs)):=List.take_of_length_le (by rw [ag];exact Nat.le_refl _);rw [ell];have k4:=k3.new (o:=.lst ((xs.map (above (aV xs))).map V.int)) hln;have R4:=R3.new (o:=.lst ((xs.map (above (aV xs))).map V.int)) hln;have h4:(upd H3 ln (.lst ((xs.map (above (aV xs))).map V.int))) ln=some (.lst ((xs.map (above (aV xs))).map V.int)):=af;generalize upd H3 ln (.lst ((xs.map (above (aV xs))).map V.int))=H4 at k4 R4 h4;refine ⟨_,rfl,ln,rfl,⟨_,SqL.of h4⟩,⟨cB (xs:=(xs.map (above (aV xs))).map V.int) (λ i acc H'=>Same H4 H'/\acc=(xs.take i).map ov) ⟨Same.refl _,rfl⟩ ?_ ?_ ?_ ?_⟩⟩
   ·rintro i acc H5 hi ⟨s5,rfl⟩;refine ⟨SqL.of (s5 _ _ h4),?_⟩;rw [ag,be];omega
   ·rw [ag,ag];exact Nat.le_of_lt (a9 (by omega))
   ·rintro i y acc H5 hx hlt ⟨s5,rfl⟩;have hlt':i < xs.length:=by rwa [ag,ag] at hlt
    rw [aL,aL,getD_at' hlt'] at hx;cases hx;have hmx:at' xs i∈xs:=cA (getD_at' hlt');refine ⟨Wk.set rfl,tT ⟨_,rfl,rfl,_,rfl,?_⟩⟩;rw [dec_int];cases e:at' xs i with
    | none=>
     refine aw (cw hlt ⟨s5,?_⟩);rw [cE hlt',e,aJ];rfl
    | some z=>
     have hz1:0<=z - aV xs:=by
      obtain ⟨m,hm⟩:∃ m,cb (aZ xs)=some m:=by
       cases e2:aZ xs with
       | nil=>have:=mem_somes.mpr (e ▸ hmx);rw [e2] at this;cases this
       | cons x r=>exact ⟨_,rfl⟩
      have:=il hm z (mem_somes.mpr (e ▸ hmx));have:aV xs=m:=by unfold aV;rw [hm];rfl
      omega
     rw [aM (show ¬ above (aV xs) (some z)=0 by show ¬ z - aV xs+1=0;omega)];refine ap ⟨_,rfl,_,rfl,_,_,rfl,rfl,_,_,rfl,rfl,cw hlt ⟨s5,?_⟩⟩;rw [cE hlt',e,aJ,ec];have e3:aV xs+above (aV xs) (some z) - 1=z:=by show aV xs+(z - aV xs+1) - 1=z;omega
     show List.map ov (List.take i xs)++[V.int (aV xs+above (aV xs) (some z) - 1)]=_;rw [e3];rfl
   ·rintro acc H5 ⟨s5,rfl⟩ l hl5;rw [ag,ag,aX];have k5:Kp r H H5:=((k1.trans k2).trans k4).trans (Kp.of s5);have R5:=R4.same s5;refine q l _ (k5.new hl5) (k5.free R5 hl5) ?_ af;rw [show n+(24+(5+wd * xs.length))=n+24+5+wd * xs.length by omega];exact R5.new hl5
noncomputable def vB:Sp:=λ vs H Q _=>∃ d:Int,vs=[.int (bD d)]/\Q (.int d) H
theorem zfA:aA ["number"] ["number"] (av o0):=by walk_at "sc"
theorem zdv(F:Fun K "unfolded" "unfolded" o0 f fd):FnOk P w K mg base CX0 1 f fd ["number"] vB:=by
 refine F.ok zfA (λ vs H Q E h=>?_) (λ cdv A outer s H vs Q E hr h=>?_)
 ·obtain ⟨d,rfl,_⟩:=h;rfl
 ·obtain ⟨d,rfl,q⟩:=h;have hb:=yW d;have hn:=md d;generalize bD d=m at hb hn;refine ⟨_,(ao (ay (dj (aG bM (aj bF (pv 0) ae) ae (aF _)) (aj cC (pv 0) ae) (aj bR (dl dm (aj cC (pv 0) ae)) ae)))),?_⟩;refine ⟨_,rfl,_,_,rfl,rfl,by show (0:Int) < 2;decide,rfl,_,rfl,?_⟩;rw [dec_int];by_cases c:m % 2=0
  ·rw [if_pos c] at hb;rw [aO c];refine aw ⟨_,rfl,_,_,rfl,rfl,⟨by decide,by decide⟩,?_⟩;show Q (.int (m / 2)) H;rw [hb];exact q
  ·rw [if_neg c] at hb;rw [aM c];refine ap ⟨_,rfl,_,_,rfl,rfl,⟨by decide,by decide⟩,_,rfl,_,_,rfl,rfl,?_⟩;show Q (.int (-(m / 2) - 1)) H;rw [hb];exact q
theorem sc_read_steps:aA ["reader", "length", "values", "width", "place"] ["reader", "length"] (av oO):=by walk_at "sc"
theorem zde(T:Txt K mg t)(CT:bB P w K mg base (CXr P w) 1 t.aT "take" ["self", "width"] (gd t))(lx:Cal P w K mg base CX0 1 "unfolded" ["number"] vB)(F:Fun K "read_steps" "read_steps" oO f fd):
  FnOk P w K mg base CX0 3 f fd ["reader", "length"] (e9 t 4):=by
 obtain ⟨iS,iT,cN,cR,cO⟩:=CT;refine F.ok sc_read_steps (λ vs H Q E h=>?_) (λ cdv A outer s H vs Q E hr h=>?_)
 ·obtain ⟨r,T,n,xs,rfl,_⟩:=h;rfl
 ·obtain ⟨r,X,n,xs,rfl,R,hb,hz,okb,hrm,ha,q⟩:=h;obtain ⟨hok,h100⟩:=eE okb;have h0:=fB okb;have hn:=rm4 hrm;have hlen:(cP 4 xs).length=24+(5+aI (bb (stp xs xs.length)).toNat * (stp xs xs.length).length):=zfR xs;rw [hlen] at q;have ha:At X.cps.toList n ((bJ (at' xs 0)).cps.toList++(df (stp xs xs.length)).cps.toList):=by
   have e:(cP 4 xs).cps.toList=(bJ (at' xs 0)).cps.toList++(df (stp xs xs.length)).cps.toList:=by
    show (ge xs).cps.toList=_;unfold ge;rw [cZ]
   rw [← e];exact ha
  have hok0:okV (at' xs 0)=true:=List.all_eq_true.mp hok _ (cA (getD_at' h0));have hs:=jr hok xs.length;have ha2:=ha.right;rw [Array.length_toList,show (bJ (at' xs 0)).cps.size=24 from gH _] at ha2;obtain ⟨e1,e2⟩:=rT ha2;obtain ⟨t0,t1⟩:=kK (k:=2 ^ 30) (by decide) hs;have hw:aI (bb (stp xs xs.length)).toNat<=30:=gy (by omega);have hv:=λ i a e=>lM e2 i a e;have htl:=λ m h=>vU (ns:=stp xs xs.length) (m:=m) h;obtain ⟨N,hN⟩:∃ N,xs.length=N+1:=⟨xs.length - 1,by omega⟩
  have sl:(stp xs xs.length).length=N:=by rw [hN,gf]
  have sg:∀ i,i < N->(stp xs xs.length)[i]?=some (bD ((at' xs (i+1)).getD 0 - (at' xs i).getD 0)):=by
   have key:∀ m i,i < m->(stp xs (m+1))[i]?=some (bD ((at' xs (i+1)).getD 0 - (at' xs i).getD 0)):=by
    intro m;induction m with
    | zero=>intro i hi;omega
    | succ m ih=>
     intro i hi;rw [pL];by_cases c:i < m
     ·rw [List.getElem?_append_left (by rw [gf];exact c)];exact ih i c
     ·have:i=m:=by omega
      subst this;rw [List.getElem?_append_right (by rw [gf];exact Nat.le_refl _),gf,Nat.sub_self];rfl
   intro i hi;rw [hN];exact key N i hi
  rw [sl] at q;generalize aI (bb (stp xs xs.length)).toNat=wd at q e1 e2 hw hv htl;refine ⟨_,(ak (aE (i:=2) sc_read_steps.nd rfl (Or.inl rfl) (bS (aa (aj bR (bU (pv 0) T.bQ cR cN (hr.mono (by decide)) cO .nil cU (aa (bf T.fq) ad)) (bf T.jZ)) ad)))
  (ak (aE (i:=3) sc_read_steps.nd rfl (Or.inl rfl) (bU (pv 0) T.bQ cR cN (hr.mono (by decide)) cO .nil cU (aa (bf T.iV) ad)))
  (ak (fK PassesOwn.never rfl (eX (by rfl) T.d4 (aa (aj bR (pv 1) ae) ad)) (aR (i:=4) sc_read_steps.nd rfl (Or.inl rfl))
   (ao (bV (cD K PySem.F.plainAttrs_list PySem.F.slot_list_append PySem.F.type_list_append im (pv 2) (aa (aj a8 (aN (bK K) (pv 2) (dl dm ae) (λ _ _=>rfl)) (lx.pe hr ax (aa (bU (pv 0) T.bQ cR cN (hr.mono (by decide)) cO .nil cU (aa (pv 3) ad)) ad))) ad)))))
  (ao (ay (pv 2)))))),?_⟩
  obtain ⟨dx,hR⟩:=id R;refine ⟨_,rfl,r,dx,_,rfl,hR,rfl,tk1 (dM (k:=24) R hb hz (by decide) ha.left (lV hok0) λ H1 k1 R1=>?_)⟩;have ec:((eO (at' xs 0):Nat):Int) - 4000001=(at' xs 0).getD 0:=by
   obtain ⟨z,ez⟩:=zfM hn h0;have:=iq (ez ▸ hok0);rw [ez];show (((z+4000001).toNat:Nat):Int) - 4000001=z;omega
  refine ⟨_,_,rfl,rfl,aB rfl,λ l hln=>?_⟩;have h2:(upd H1 l (.lst [V.int (((eO (at' xs 0):Nat):Int) - 4000001)])) l=some (.lst ((xs.take 1).map ov)):=by
   rw [af,ec,cE h0,← i7 hn h0];rfl
  have k2:=k1.new (o:=.lst [V.int (((eO (at' xs 0):Nat):Int) - 4000001)]) hln;have R2:=R1.new (o:=.lst [V.int (((eO (at' xs 0):Nat):Int) - 4000001)]) hln;have hl0:=k1.free R1 hln;have nlr:=gA R1 hln;show dC _ _ _ (upd H1 l (.lst [V.int (((eO (at' xs 0):Nat):Int) - 4000001)])) _;generalize upd H1 l (.lst [V.int (((eO (at' xs 0):Nat):Int) - 4000001)])=H2 at h2 k2 R2;obtain ⟨dx2,hR2⟩:=id R2;refine ⟨_,rfl,r,dx2,_,rfl,hR2,rfl,tk1 (dM (k:=5) R2 hb hz (by decide) e1 (show wd < 2 ^ 5 by omega) λ H3 k3 R3=>?_)⟩;refine ⟨_,rfl,_,_,rfl,rfl,_,rfl,by omega,by omega,?_⟩;rw [show ((xs.length:Int) - 1).toNat=N by omega];refine ⟨jW (λ i σ H'=>∃ v4:Option V,σ=[some (.ref r),some (.int xs.length),some (.ref l),some (.int wd),v4]/\Kp r H H'/\RdAt t.aT H' r X (n+24+5+wd * i)/\H' l=some (.lst ((xs.take (i+1)).map ov))) ⟨none,rfl,k2.trans k3,R3,k3 l _ nlr h2⟩ ?_ ?_⟩
  ·rintro i σ H4 hi ⟨v4,rfl,k4,R4,h4⟩;obtain ⟨dx4,hR4⟩:=id R4;have hi1:i < xs.length:=by omega
   have hi2:i+1 < xs.length:=by omega
   have ex:=sg i hi;have hmem:=cA ex;obtain ⟨n0,_⟩:=hs _ hmem;have al:atI ((xs.take (i+1)).map ov) (-1)=some (.int ((at' xs i).getD 0)):=by
    rw [cE hi1,aJ,← i7 hn hi1];exact lL _ _
   refine ⟨_,rfl,.inl ⟨rfl,_,SqL.of h4⟩,_,rfl,1,rfl,l,_,_,_,rfl,rfl,SqL.of h4,al,?_⟩;refine ⟨_,rfl,r,dx4,_,rfl,hR4,rfl,tkv rfl (dM (k:=wd) R4 hb hz (by omega) (hv i _ ex) (htl _ hmem) λ H5 k5 R5=>?_)⟩;have h5:=k5 l _ nlr h4;refine ⟨(at' xs (i+1)).getD 0 - (at' xs i).getD 0,?_,_,_,rfl,rfl,l,_,_,rfl,rfl,h5,?_,_,rfl,(k4.trans k5).put hl0,?_,?_⟩
   ·show [V.int (((bD ((at' xs (i+1)).getD 0 - (at' xs i).getD 0)).toNat:Nat):Int)]=_;rw [Int.toNat_of_nonneg n0]
   ·rw [ag,be];exact a9 (by omega)
   ·rw [Nat.mul_succ,← Nat.add_assoc];exact R5.put h5
   ·rw [af,cE hi2,aJ];show some (HO.lst (_++[V.int ((at' xs i).getD 0+((at' xs (i+1)).getD 0 - (at' xs i).getD 0))]))=some (HO.lst (_++[ov (at' xs (i+1))]));rw [i7 hn hi2,show (at' xs i).getD 0+((at' xs (i+1)).getD 0 - (at' xs i).getD 0)=(at' xs (i+1)).getD 0 by omega]
  ·rintro σ H4 ⟨v4,rfl,k4,R4,h4⟩;rw [← hN,aX] at h4;refine ⟨_,rfl,q l H4 k4 hl0 ?_ h4⟩;rw [show n+(24+(5+wd * N))=n+24+5+wd * N by omega];exact R4
noncomputable def spR(t:Ad):Str->Sp:=λ x vs H Q E=>∃ j,kindsS[j]?=some x/\e9 t j vs H Q E
theorem zeL{f1 f2 f3 f4 f5:Addr}(hm:mg "READERS" = some (.ref a))(hl:K.lookup a=some ⟨.type "dict", none,.dict es n,#[]⟩)(hk:W.KeysLit w.params es.toList)(n1:W.nsIn K a "plain" = some (some (.ref f1)))(n2:W.nsIn K a "runs" = some (some (.ref f2)))(n3:W.nsIn K a "book" = some (some (.ref f3)))(n4:W.nsIn K a "base" = some (some (.ref f4)))(n5:W.nsIn K a "steps" = some (some (.ref f5)))(g1:mg "read_plain" = some (.ref f1))(g2:mg "read_runs" = some (.ref f2))(g3:mg "read_book" = some (.ref f3))(g4:mg "read_base" = some (.ref f4))(g5:mg "read_steps" = some (.ref f5))(C1:Cal P w K mg base CX0 4 "read_plain" ["reader", "length"] (kD t))(C2:Cal P w K mg base CX0 4 "read_runs" ["reader", "length"] (e9 t 1))(C3:Cal P w K mg base CX0 5 "read_book" ["reader", "length"] (e9 t 2))(C4:Cal P w K mg base CX0 3 "read_base" ["reader", "length"] (e9 t 3))(C5:Cal P w K mg base CX0 3 "read_steps" ["reader", "length"] (e9 t 4)):CalT P w K mg base CX0 5 "READERS" ["reader", "length"] kindsS (spR t):=by
 refine ⟨a,es,n,hm,hl,hk,λ y hy=>?_⟩;obtain ⟨j,hj⟩:=List.getElem?_of_mem hy;have only:∀ {i:Nat},kindsS[i]?=some y->i=j:=λ h=>eU gx h hj;rcases rX hj with ⟨rfl,rfl⟩ | ⟨rfl,rfl⟩ | ⟨rfl,rfl⟩ | ⟨rfl,rfl⟩ | ⟨rfl,rfl⟩
 ·obtain ⟨f,fd,G,m,k,b⟩:=C1;cases g1.symm.trans m;exact ⟨_,fd,n1,(G.mono (by decide)).imp (λ vs H Q E ⟨i,hi,h⟩=>by cases only hi;exact zeK h),k,b⟩
 ·obtain ⟨f,fd,G,m,k,b⟩:=C2;cases g2.symm.trans m;exact ⟨_,fd,n2,(G.mono (by decide)).imp (λ vs H Q E ⟨i,hi,h⟩=>by cases only hi;exact h),k,b⟩
 ·obtain ⟨f,fd,G,m,k,b⟩:=C3;cases g3.symm.trans m;exact ⟨_,fd,n3,G.imp (λ vs H Q E ⟨i,hi,h⟩=>by cases only hi;exact h),k,b⟩
 ·obtain ⟨f,fd,G,m,k,b⟩:=C4;cases g4.symm.trans m;exact ⟨_,fd,n4,(G.mono (by decide)).imp (λ vs H Q E ⟨i,hi,h⟩=>by cases only hi;exact h),k,b⟩
 ·obtain ⟨f,fd,G,m,k,b⟩:=C5;cases g5.symm.trans m;exact ⟨_,fd,n5,(G.mono (by decide)).imp (λ vs H Q E ⟨i,hi,h⟩=>by cases only hi;exact h),k,b⟩
theorem fj{a b:Str}(ha:bh a.cps.toList)(hb:bh b.cps.toList):bh (a++b).cps.toList:=λ c hc=>by
 rw [cZ] at hc;rcases al_mp.mp hc with h | h
 ·exact ha c h
 ·exact hb c h
theorem xT{l:List Str}(h:∀ s∈l,bh s.cps.toList):bh (ba l).cps.toList:=λ c hc=>by
 rw [dZ] at hc;obtain ⟨s,hs,hc⟩:=List.mem_flatten.mp hc;obtain ⟨z,hz,rfl⟩:=List.mem_map.mp hs;exact h z hz c hc
theorem gW{f:α->Str}{l:List α}(h:∀ a,bh (f a).cps.toList):bh (ba (l.map f)).cps.toList:=xT λ s hs=>by
 obtain ⟨a,_,rfl⟩:=List.mem_map.mp hs;exact h a
theorem dI(n k:Nat):bh (bu n k).cps.toList:=qJ n k
theorem qL(ns:List Int):bh (df ns).cps.toList:=fj (dI _ _) (gW λ _=>dI _ _)
theorem xS(j:Nat)(xs:List OI):bh (cP j xs).cps.toList:=by
 match j with
 | 0=>exact gW (f:=bJ) λ _=>dI _ _
 | 1=>exact fj (dI _ _) (gW (f:=cS) λ _=>fj (dI _ _) (dI _ _))
 | 2=>exact fj (fj (dI _ _) (gW (f:=bJ) λ _=>dI _ _)) (gW (f:=eI (aq xs).book) λ _=>dI _ _)
 | 3=>exact fj (dI _ _) (qL _)
 | j+4=>exact fj (dI _ _) (qL _)
theorem xV(j:Nat)(xs:List OI):bh (cT j xs).cps.toList:=fj (fj (dI _ _) (dI _ _)) (xS j xs)
noncomputable abbrev Blk:=Nat × List OI
noncomputable def okK(b:Blk):Prop:=okB b.2=true/\b.1 < 5/\rm b.2 b.1≠.none
noncomputable def bC(b:Blk):Str:=cT b.1 b.2
theorem qw{α:Type}(f:α->Str):∀ (l:List α) (i:Nat) (a:α),l[i]?=some a->At (ba (l.map f)).cps.toList (ba ((l.take i).map f)).length (f a).cps.toList
 | b::r,0,a,e=>by
  cases e;refine ⟨[],(ba (r.map f)).cps.toList,?_,rfl⟩;rw [List.map_cons,j0,cZ];rfl
 | b::r,i+1,a,e=>by
  obtain ⟨pre,post,h1,h2⟩:=qw f r i a e;refine ⟨(f b).cps.toList++pre,post,?_,?_⟩
  ·rw [List.map_cons,j0,cZ,h1,List.append_assoc]
  ·rw [List.take_succ_cons,List.map_cons,j0,cy,bc,h2,Array.length_toList];rfl
noncomputable def vp(t:Ad):Sp:=λ vs H Q _=>∃ (r:Addr) (X:Str) (n:Nat) (b:Blk),vs=[.ref r]/\RdAt t.aT H r X n/\bh X.cps.toList/\X.length<=16777216/\okK b/\At X.cps.toList n (bC b).cps.toList/\
 ∀ (a l:Addr) (H':Hp),Kp r H H'->H a=none->H l=none->H' a=some (.tup [.str (kindsS.getD b.1 ""),.ref l])->H' l=some (.lst (b.2.map ov))->RdAt t.aT H' r X (n+(bC b).length)->Q (.ref a) H'
theorem sc_read_block:aA ["reader", "begin", "number", "kind", "length", "values"] ["reader"] (av oJ):=by walk_at "sc"
theorem zda(T:Txt K mg t)(CT:bB P w K mg base (CXr P w) 1 t.aT "take" ["self", "width"] (gd t))(CS:bB P w K mg base CX0 1 t.aT "taken_since" ["self", "place"] (vy t))(kO:CalT P w K mg base CX0 5 "READERS" ["reader", "length"] kindsS (spR t))(jz:Cal P w K mg base CX0 4 "is_block" ["values"] (pz K))(gM:Cal P w K mg base (CXr P w) 7 "packed" ["kind", "values"] (pG K t))(F:Fun K "read_block" "read_block" oJ f fd):FnOk P w K mg base CX0 8 f fd ["reader"] (vp t):=by
 obtain ⟨iS,iT,cN,cR,cO⟩:=CT;obtain ⟨zhc,zhm,xb,zaU,xJ⟩:=CS;refine F.ok sc_read_block (λ vs H Q E h=>?_) (λ cdv A outer s H vs Q E hr h=>?_)
 ·obtain ⟨r,T,n,b,rfl,_⟩:=h;rfl
 ·obtain ⟨r,X,n,⟨j,xs⟩,rfl,R,hb,hz,⟨okb,hj5,hrm⟩,ha,q⟩:=h;have okb:okB xs=true:=okb;have hj5:j < 5:=hj5;have hrm:rm xs j≠.none:=hrm;have ha:At X.cps.toList n (cT j xs).cps.toList:=ha;obtain ⟨hok,h100⟩:=eE okb;have h0:=fB okb;have hj:kindsS[j]?=some (kindsS.getD j ""):=by
   have h:j < kindsS.length:=hj5;simp [List.getD,h]
  have q:∀ (a l:Addr) (H':Hp),Kp r H H'->H a=none->H l=none->H' a=some (.tup [.str (kindsS.getD j ""),.ref l])->H' l=some (.lst (xs.map ov))->RdAt t.aT H' r X (n+(cT j xs).length)->Q (.ref a) H':=q;generalize kindsS.getD j "" = x at hj q;have hcut:=ha.cut;have hle:=ha.le;rw [Array.length_toList] at hcut;rw [Array.length_toList,Array.length_toList] at hle;have hle:n+(cT j xs).length<=X.length:=hle;have hpl:(cT j xs).length=11+(cP j xs).length:=by
   unfold cT;rw [cy,cy,bP,bP]
  have ha:At X.cps.toList n (bq j 3++(bq (xs.length - 1) 8++(cP j xs).cps.toList)):=by
   have e:(cT j xs).cps.toList=bq j 3++(bq (xs.length - 1) 8++(cP j xs).cps.toList):=by
    unfold cT;rw [cZ,cZ,List.append_assoc];rfl
   rw [← e];exact ha
  have ha2:=ha.right;rw [dW] at ha2;have ha3:=ha2.right;rw [dW] at ha3;refine ⟨_,(ak (aE (i:=1) sc_read_block.nd rfl (Or.inl rfl) (eW K (pv 0) rfl))
  (ak (aE (i:=2) sc_read_block.nd rfl (Or.inl rfl) (bU (pv 0) T.bQ cR cN (hr.mono (by decide)) cO .nil cU (aa (bf T.mo) ad)))
  (ak (aS (aG mR (pv 2) (aP (cr K) (by rfl) T.bE PyProof.Rows.Boot.«len» (aa (di T.hV) ad)) (aF _)) ko
   aY)
  (ak (aE (i:=3) sc_read_block.nd rfl (Or.inl rfl) (aN (bL K) (di T.hV) (pv 2) (λ _ _=>rfl)))
  (ak (aE (i:=4) sc_read_block.nd rfl (Or.inl rfl) (aj a8 (bU (pv 0) T.bQ cR cN (hr.mono (by decide)) cO .nil cU (aa (bf T.mq) ad)) ae))
  (ak (aE (i:=5) sc_read_block.nd rfl (Or.inl rfl) (kO.pe hr ax (pv 3) (aa (pv 0) (aa (pv 4) ad))))
  (ak (aS (PW.pt (eZ (ef (c9 (jz.pe hr ax (aa (pv 5) ad)))) (fL (aG fD (gM.pe hr cU (aa (pv 3) (aa (pv 5) ad))) (bU (pv 0) T.bQ zaU xb (hr.mono (by decide)) xJ .nil ax (aa (pv 1) ad)) (aF _))))) ko
   aY)
  (ao (ay (cp (aa (pv 3) (aa (pv 5) ad)))))))))))),?_⟩
  obtain ⟨dx,hR⟩:=id R;refine ⟨_,rfl,r,_,dx,_,_,rfl,hR,T.bQ,T.gj,rfl,?_⟩;refine ⟨_,rfl,r,dx,_,rfl,hR,rfl,tk1 (dM (k:=3) R hb hz (by decide) ha.left (show j < 2 ^ 3 by omega) λ H1 k1 R1=>?_)⟩;refine ⟨_,rfl,t.dU,kindsV,rfl,.inr (T.ij _),_,_,rfl,rfl,_,rfl,?_⟩;rw [aM (show ¬ ((kindsV.length:Nat):Int)<=(j:Int) by show ¬ (5:Int)<=(j:Int);omega)];refine ap ?_;have atk:atI kindsV (j:Int)=some (.str x):=dG (by unfold kindsV;rw [aL,hj];rfl);refine ⟨_,rfl,t.dU,kindsV,_,_,rfl,rfl,T.ij _,atk,?_⟩;obtain ⟨dx1,hR1⟩:=id R1;refine ⟨_,rfl,r,dx1,_,rfl,hR1,rfl,tk1 (dM (k:=8) R1 hb hz (by decide) ha2.left (show xs.length - 1 < 2 ^ 8 by omega) λ H2 k2 R2=>?_)⟩;have el:((xs.length - 1:Nat):Int)+1=(xs.length:Int):=by omega
  refine ⟨_,_,rfl,rfl,_,rfl,x,rfl,cA hj,_,rfl,_,rfl,j,hj,r,X,n+3+8,xs,?_,R2,hb,hz,okb,hrm,ha3,λ l H3 k3 hl3 R3 h3=>?_⟩
  ·show [V.ref r,V.int (((xs.length - 1:Nat):Int)+1)]=_;rw [el]
  have k13:=(k1.trans k2).trans k3;have hl0:=(k1.trans k2).free R2 hl3;have nlr:=gA R2 hl3;refine ⟨_,rfl,l,xs,rfl,SqL.of h3,by omega,λ H4 s4=>⟨_,rfl,?_⟩⟩;rw [okb];refine ap ?_;have R4:=R3.same s4;have h4:=s4 _ _ h3;refine ⟨_,rfl,_,rfl,l,xs,x,rfl,SqL.of h4,by omega,λ z=>(by rw [okb] at z;cases z),λ _ z=>absurd (cA hj) z,λ _ i hi z=>?_,λ _ i hi _ H5 s5=>?_⟩
  ·cases eU gx hi hj;exact absurd z hrm
  cases eU gx hi hj;have R5:=R4.same s5;obtain ⟨dx5,hR5⟩:=id R5;have e5:n+3+8+(cP j xs).length=n+(cT j xs).length:=by rw [hpl];omega
  rw [e5] at R5;refine ⟨_,rfl,r,dx5,_,rfl,hR5,rfl,_,rfl,r,X,n,n+(cT j xs).length,rfl,R5,hz,by omega,hle,?_⟩;have ecut:(⟨((X.cps.toList.drop n).take (n+(cT j xs).length - n)).toArray⟩:Str)=cT j xs:=by
   apply iB;show (X.cps.toList.drop n).take (n+(cT j xs).length - n)=_;rw [Nat.add_sub_cancel_left];exact hcut
  rw [ecut];refine ⟨rfl,_,rfl,?_⟩;rw [zfP];refine ap ?_;refine ⟨_,rfl,_,rfl,(show 2<=sizeLine by decide),λ a ha'=>?_⟩;have k5:=(k13.trans (Kp.of s4)).trans (Kp.of (r:=r) s5);have h5:=s5 _ _ h4;refine q a l _ (k5.new ha') (k5.free R5 ha') hl0 af ?_ (R5.new ha');rw [ai (aK h5 ha')];exact h5
noncomputable def qj(H0 H:Hp)(l:Addr)(bl:List Blk):Prop:=∃ as:List (Addr × Addr),H l=some (.lst (as.map λ a=>V.ref a.1))/\as.length=bl.length/\(∀ (i:Nat) (a:Addr × Addr) (b:Blk),as[i]?=some a->bl[i]?=some b->H a.1=some (.tup [.str (kindsS.getD b.1 ""),.ref a.2])/\H a.2=some (.lst (b.2.map ov)))/\
 ∀ a∈as,H0 a.1=none/\H0 a.2=none
noncomputable def vC:Sp:=λ vs H Q _=>∃ bl:List Blk,vs=[.str (ba (bl.map bC))]/\(∀ b∈bl,okK b)/\(ba (bl.map bC)).length<=16777216/\
 ∀ (l:Addr) (H':Hp),Same H H'->H l=none->qj H H' l bl->Q (.ref l) H'
theorem qQ(b:Blk):0 < (bC b).length:=by
 unfold bC cT;rw [cy,cy,bP];omega
theorem mv{bl:List Blk}{i:Nat}{b:Blk}(h:bl[i]?=some b):(ba ((bl.take (i+1)).map bC)).length=(ba ((bl.take i).map bC)).length+(bC b).length:=by
 rw [List.take_add_one,h];show (ba ((bl.take i++[b]).map bC)).length=_;rw [aJ,zl,cy]
 congr 1
 show (ba [bC b]).length=_;rw [j0,cy];rfl
theorem sc_unpacked:aA ["bits", "reader", "blocks"] ["bits"] (av o3):=by walk_at "sc"
theorem zdw(T:Txt K mg t)(CI:iJ P w K mg base (CXr P w) 1 t.aT ["self", "text"] (uR t))(CH:bB P w K mg base CX0 1 t.aT "has_more" ["self"] (va t))(lp:Cal P w K mg base CX0 8 "read_block" ["reader"] (vp t))(F:Fun K "unpacked" "unpacked" o3 f fd):FnOk P w K mg base CX0 9 f fd ["bits"] vC:=by
 obtain ⟨zg4,zhe,wW,zaL,xB⟩:=CI;obtain ⟨zg7,zhh,wZ,zaO,xE⟩:=CH;refine F.ok sc_unpacked (λ vs H Q E h=>?_) (λ cdv A outer s H vs Q E hr h=>?_)
 ·obtain ⟨bl,rfl,_⟩:=h;rfl
 ·obtain ⟨bl,rfl,hbl,hz,q⟩:=h;have hb:bh (ba (bl.map bC)).cps.toList:=gW (f:=bC) λ b=>xV _ _;have hat:=qw bC bl;have htot:ba ((bl.take bl.length).map bC)=ba (bl.map bC):=by rw [aX]
  generalize hX:ba (bl.map bC)=X at hb hat hz htot;refine ⟨_,(ak (aE (i:=1) sc_unpacked.nd rfl (Or.inl rfl) (tW zaL wW (hr.mono (by decide)) rfl T.y8 xB .nil cU (aa (pv 0) ad)))
  (ak (aE (i:=2) sc_unpacked.nd rfl (Or.inl rfl) (bS ad))
  (ak (km PassesOwn.never (c9 (fF (pv 1) T.bQ zaO wZ (hr.mono (by decide)) xE .nil ax))
   (ao (bV (cD K PySem.F.plainAttrs_list PySem.F.slot_list_append PySem.F.type_list_append im (pv 2) (aa (lp.pe hr ax (aa (pv 1) ad)) ad)))))
  (ao (ay (pv 2)))))),?_⟩
  refine ⟨_,rfl,λ r dx nr ndx nex=>?_⟩;refine ⟨r,dx,X,rfl,af,hz,λ _ H1 R1 kp=>⟨rfl,?_⟩,λ z=>absurd hb z⟩;have s1:Same H H1:=λ b o e=>by
   rw [kp b (aK e nr),ai (aK e nr),ai (aK e ndx)];exact e
  refine ⟨aB rfl,λ l hln=>?_⟩;have R2:=R1.new (o:=.lst []) hln;have s2:Same H (upd H1 l (.lst [])):=az s1 hln;have h2:(upd H1 l (.lst [])) l=some (.lst (([]:List (Addr × Addr)).map λ a=>V.ref a.1)):=af;have hl0:=s1.free hln;have nlr:=gA R1 hln;show dC _ _ _ (upd H1 l (.lst [])) _;generalize upd H1 l (.lst [])=H2 at R2 s2 h2;refine kM (λ σ H'=>σ=[some (.str X),some (.ref r),some (.ref l)]/\Same H H'/\∃ i,i<=bl.length/\RdAt t.aT H' r X (ba ((bl.take i).map bC)).length/\qj H H' l (bl.take i))
   (λ _ H'=>match H' r with | some (.ins _ _ [_,(_,.int n)])=>X.length - n.toNat | _=>0) ⟨rfl,s2,0,Nat.zero_le _,R2,[],h2,rfl,λ i a b e=>(by cases e),λ a h=>(by cases h)⟩ ?_
  rintro m σ H3 hm ⟨rfl,s3,i,hi,R3,P3⟩;obtain ⟨dx3,hR3⟩:=id R3;have hm:m=X.length - (ba ((bl.take i).map bC)).length:=by rw [hm,hR3];simp [m6]
  refine ⟨_,rfl,r,dx3,_,rfl,hR3,rfl,r,X,_,rfl,R3,hz,_,rfl,?_⟩;by_cases c:i < bl.length
  ·have ex:bl[i]?=some bl[i]:=aH c;have ha:=hat i _ ex;have hle:=ha.le;rw [Array.length_toList,Array.length_toList] at hle;have hpos:=qQ bl[i];rw [aO (show (ba ((bl.take i).map bC)).length < X.length by
    have:(ba ((bl.take i).map bC)).length+(bC bl[i]).length<=X.length:=hle;omega)]
   refine aw ⟨_,wN,?_⟩;obtain ⟨as,p1,p2,p3,p4⟩:=P3;have p2:as.length=i:=by rw [p2,be];omega
   refine ⟨_,rfl,.inl ⟨rfl,_,SqL.of p1⟩,_,rfl,r,X,_,bl[i],rfl,R3,hb,hz,hbl _ (List.getElem_mem c),ha,λ a l' H4 k4 ha0 hl'0 h4 h4' R4=>?_⟩;have hl4:=k4 l _ nlr p1;have al:a≠l:=λ z=>by rw [z,p1] at ha0;cases ha0
   have ll:l'≠l:=λ z=>by rw [z,p1] at hl'0;cases hl'0
   have R5:=R4.put (o:=.lst (as.map (λ a=>V.ref a.1)++[.ref a])) hl4;rw [← mv ex] at R5;have hlt:(bC bl[i]).length+(ba ((bl.take i).map bC)).length<=X.length:=by
    have:(ba ((bl.take i).map bC)).length+(bC bl[i]).length<=X.length:=hle;omega
   have hnew:=mv ex;have nrH:H r=none:=nr;refine ⟨l,_,_,rfl,rfl,hl4,?_,⟨rfl,λ b o e=>?_,i+1,by omega,R5,as++[(a,l')],?_,?_,λ k z b e1 e2=>?_,λ z hz'=>?_⟩,?_⟩
   ·rw [ag];have:i < X.length:=by
     have key:∀ k,k<=bl.length->k<=(ba ((bl.take k).map bC)).length:=by
      intro k;induction k with
      | zero=>intro _;exact Nat.zero_le _
      | succ k ih=>
       intro hk;have e:bl[k]?=some bl[k]:=aH (by omega);rw [mv e];have:=ih (by omega);have:=qQ bl[k];omega
     have:=key (i+1) (by omega);rw [hnew] at this;omega
    rw [sizeLine_eq];omega
   ·have hbr:b≠r:=aK e nrH;rw [ai (aK e hl0)];exact k4 b o hbr (s3 b o e)
   ·rw [af,aJ];rfl
   ·rw [bc,be,p2,dF];omega
   ·by_cases hk:k < as.length
    ·rw [List.getElem?_append_left hk] at e1;have e2':(bl.take i)[k]?=some b:=by
      rw [List.getElem?_take] at e2 ⊢;rw [if_pos (by omega)] at e2 ⊢;exact e2
     obtain ⟨z1,z2⟩:=p3 k z b e1 e2';have n1:z.1≠r:=λ y=>by rw [y,hR3] at z1;cases z1
     have n2:z.2≠r:=λ y=>by rw [y,hR3] at z2;cases z2
     have n3:z.1≠l:=λ y=>by rw [y,p1] at z1;cases z1
     refine ⟨?_,?_⟩
     ·rw [ai n3];exact k4 _ _ n1 z1
     ·by_cases y:z.2=l
      ·rw [y,p1] at z2;have e3:as.map (λ a=>V.ref a.1)=b.2.map ov:=HO.lst.inj (Option.some.inj z2);obtain ⟨hb1,_,_⟩:=hbl b (cA (show bl[k]?=some b by rw [List.getElem?_take,if_pos (by omega)] at e2';exact e2'));have hb0:=fB hb1;obtain ⟨v,tl,hv⟩:∃ v tl,b.2=v::tl:=List.exists_cons_of_length_pos hb0;rw [hv] at e3;cases as with
       | nil=>cases e3
       | cons a0 ar=>
        have:=(List.cons.inj e3).1;cases v <;> cases this
      ·rw [ai y];exact k4 _ _ n2 z2
    ·rw [List.getElem?_append_right (by omega)] at e1;have hk0:k - as.length=0:=by
      have:=(al_gs.mp e1).1;simp at this;omega
     rw [hk0] at e1;cases e1;have hki:k=i:=by
      have:=(al_gs.mp e2).1;rw [be] at this;omega
     subst hki;rw [List.getElem?_take,if_pos (by omega),ex] at e2;cases e2;refine ⟨?_,?_⟩
     ·show (upd H4 l _) a=_;rw [ai al];exact h4
     ·show (upd H4 l _) l'=_;rw [ai ll];exact h4'
   ·rcases al_mp.mp hz' with hz' | hz'
    ·exact p4 z hz'
    ·rw [al_mi.mp hz'];exact ⟨s3.free ha0,s3.free hl'0⟩
   ·obtain ⟨dx5,hR5⟩:=R5;show (match (upd H4 l _) r with | some (.ins _ _ [_,(_,.int n)])=>X.length - n.toNat | _=>0) < m;rw [hR5];show X.length - (((ba ((bl.take (i+1)).map bC)).length:Nat):Int).toNat < m;rw [Int.toNat_natCast,hm,hnew];omega
  ·have hi':i=bl.length:=by omega
   subst hi';rw [htot,aM (by omega)];refine ap ?_;rw [aX] at P3;exact ⟨_,rfl,q l H3 s3 hl0 P3⟩
theorem qP(xs:List OI):∀ (b:Nat) (l:List Nat),Ris xs.length b l->(cH xs b l).flatten=xs.drop b
 | b,[],h=>by
  have:b=xs.length:=h;subst this;rw [List.drop_length];rfl
 | b,e::r,h=>by
  have:=h.1;rw [cH,List.flatten_cons,qP xs e r h.2];have e1:xs.drop e=(xs.drop b).drop (e - b):=by rw [List.drop_drop];congr 1;omega
  rw [e1,List.take_append_drop]
noncomputable def fk(xs:List OI):List Blk:=(cH xs 0 (cQ xs xs.length)).map λ b=>(ci b,b)
theorem rp(xs:List OI):ba ((fk xs).map bC)=iE xs:=by
 unfold fk iE;rw [List.map_map];rfl
theorem yi(xs:List OI):((fk xs).map (·.2)).flatten=xs:=by
 unfold fk;rw [List.map_map];have:(cH xs 0 (cQ xs xs.length)).map ((·.2) ∘ λ b=>((ci b,b):Blk))=cH xs 0 (cQ xs xs.length):=List.map_id _;rw [this,qP xs 0 _ (l9 xs xs.length)];rfl
theorem qR(ok:okC xs=true){b:List OI}(h:b∈cH xs 0 (cQ xs xs.length)):okB b=true:=by
 obtain ⟨i,hi⟩:=List.getElem?_of_mem h;have hl:=ip ok;have hie:i < (cQ xs xs.length).length:=by
  have:=(al_gs.mp hi).1
  rwa [gX] at this
 rw [jP xs 0 _ i hie] at hi;cases hi;obtain ⟨r1,r2⟩:=(l9 xs xs.length).at i hie;exact lR (tJ ok) (by omega) r1 r2
theorem rq(ok:okC xs=true):∀ b∈fk xs,okK b:=λ b hb=>by
 obtain ⟨c,hc,rfl⟩:=List.mem_map.mp hb;obtain ⟨b5,brm⟩:=lO c;exact ⟨qR ok hc,b5,by show rm c (ci c)≠none;rw [brm];intro z;cases z⟩
theorem yj(xs:List OI):(fk xs).length<=xs.length:=by
 unfold fk;rw [ag,gX];exact lY xs xs.length
theorem zgw(ok:okC xs=true):(iE xs).length<=16777216:=by
 have hl:=ip ok;have h64:=sr (l:=(cH xs 0 (cQ xs xs.length)).map fi) (k:=200011) λ s hs=>by
  obtain ⟨b,hb,rfl⟩:=List.mem_map.mp hs;obtain ⟨x1,x2⟩:=eE (qR ok hb);exact qC (by omega) x1
 rw [ag,gX] at h64;have:=lY xs xs.length;have:200011 * (cQ xs xs.length).length<=200011 * 64:=Nat.mul_le_mul_left _ (by omega);unfold iE;rw [eQ];omega
noncomputable def ColAt(C:Addr)(H:Hp)(c:Addr)(xs:List OI):Prop:=∃ dx,H c=some (.ins C dx [("lying", .str (iE xs))])
theorem ColAt.same(h:ColAt C H c xs)(s:Same H H'):ColAt C H' c xs:=by
 obtain ⟨dx,h⟩:=h;exact ⟨dx,s _ _ h⟩
noncomputable def uQ(K:W.Frag)(t:Ad):Sp:=λ vs H Q E=>∃ (p dx l:Addr) (xs:List OI),vs=[.ref p,.ref l]/\H p=some (.ins t.bv dx [])/\SqL K H l (xs.map ov)/\xs.length<=1000/\
 (okC xs=true->∀ H':Hp,ColAt t.bv H' p xs->Kp p H H'->Q .non H')/\(okC xs=false->∀ H',Same H H'->E (.ref t.de) none H')
theorem zeZ:aA ["self", "values"] ["self", "values"] (av ng):=by walk_at "sc"
theorem zcj(T:Txt K mg t)(lw:Cal P w K mg base (CXr P w) 9 "tight" ["values"] (vz K t))(F:Fun K "__init__" "Column.__init__" ng f fd):FnOk P w K mg base (CXr P w) 10 f fd ["self", "values"] (uQ K t):=by
 refine F.okX zeZ (λ vs H Q E h=>?_) (λ cdv A outer s H vs Q E hr h=>?_)
 ·obtain ⟨p,dx,l,xs,rfl,_⟩:=h;rfl
 ·obtain ⟨p,dx,l,xs,rfl,hp,hS,hl,q1,q2⟩:=h;refine ⟨_,(ao (c6 (pv 0) (lw.pe hr cV (aa (pv 1) ad)) rfl)),?_⟩;refine ⟨_,rfl,l,xs,rfl,hS,hl,λ ok H1 s1=>?_,q2⟩;exact ⟨_,rfl,p,t.bv,dx,_,rfl,s1 _ _ hp,T.eA,T.qp,by show 0 < 1000;decide,q1 ok _ ⟨dx,af⟩ ((Kp.of s1).trans Kp.own)⟩
inductive Sm where
 | all | none | is (n:Int) | below (n:Int) | above (n:Int) | among (ns:List Int)
noncomputable def Sm.word:Sm->Str
 | .all => "all" | .none => "none" | .is _ => "is" | .below _ => "below" | .above _ => "above" | .among _ => "among"
inductive QT where
 | sm (s:Sm) | neg (q:QT) | both (q r:QT) | either (q r:QT) | bad (w:Str) (vs:List V)
noncomputable def JL:List (Str × V):=[("not", .int 2),("both", .int 3),("either", .int 3)]
noncomputable def SL:List (Str × V):=[("all", .int 1),("none", .int 1),("is", .int 2),("below", .int 2),("above", .int 2),("among", .int 2)]
noncomputable def SmAt(H:Hp)(a:Addr):Sm->Prop
 | .among ns=>∃ l,H a=some (.tup [.str "among", .ref l])/\H l=some (.lst (ns.map V.int))/\ns.length<=1000
 | .all=>H a=some (.tup [.str "all"])
 | .none=>H a=some (.tup [.str "none"])
 | .is n=>H a=some (.tup [.str "is", .int n])
 | .below n=>H a=some (.tup [.str "below", .int n])
 | .above n=>H a=some (.tup [.str "above", .int n])
noncomputable def QAt(H:Hp):Addr->QT->Prop
 | a,.sm s=>SmAt H a s
 | a,.neg q=>∃ b,H a=some (.tup [.str "not", .ref b])/\QAt H b q
 | a,.both q r=>∃ b c,H a=some (.tup [.str "both", .ref b,.ref c])/\QAt H b q/\QAt H c r
 | a,.either q r=>∃ b c,H a=some (.tup [.str "either", .ref b,.ref c])/\QAt H b q/\QAt H c r
 | a,.bad w vs=>H a=some (.tup (.str w::vs))/\vs.length<=1000/\JL.lookup w≠some (.int (vs.length+1:Nat))/\(JL.lookup w=none->SL.lookup w≠some (.int (vs.length+1:Nat)))
noncomputable def Kt(H H':Hp):Prop:=∀ b o,H b=some o->H' b=some o\/(∃ ps,o = .tbl ps)\/∃ x y,o = .frz x y
theorem bZ(s:Same H H'):Kt H H':=λ b o e=>.inl (s b o e)
theorem Kt.tup(k:Kt H H'){xs:List V}(e:H a=some (.tup xs)):H' a=some (.tup xs):=(k a _ e).elim id λ z=>by rcases z with ⟨_,z⟩ | ⟨_,_,z⟩ <;> cases z
theorem Kt.lst(k:Kt H H'){xs:List V}(e:H a=some (.lst xs)):H' a=some (.lst xs):=(k a _ e).elim id λ z=>by rcases z with ⟨_,z⟩ | ⟨_,_,z⟩ <;> cases z
theorem SmAt.kt(k:Kt H H'): ∀ {s:Sm},SmAt H a s->SmAt H' a s
 | .among _,⟨l,e1,e2,z⟩=>⟨l,k.tup e1,k.lst e2,z⟩
 | .all,e=>k.tup e
 | .none,e=>k.tup e
 | .is _,e=>k.tup e
 | .below _,e=>k.tup e
 | .above _,e=>k.tup e
theorem QAt.kt{H H':Hp}(k:Kt H H'):∀ {q:QT} {a:Addr},QAt H a q->QAt H' a q
 | .sm _,_,h=>SmAt.kt k h
 | .neg q,_,⟨b,e,h⟩=>⟨b,k.tup e,QAt.kt k h⟩
 | .both q r,_,⟨b,c,e,h1,h2⟩=>⟨b,c,k.tup e,QAt.kt k h1,QAt.kt k h2⟩
 | .either q r,_,⟨b,c,e,h1,h2⟩=>⟨b,c,k.tup e,QAt.kt k h1,QAt.kt k h2⟩
 | .bad _ _,_,⟨e,r⟩=>⟨k.tup e,r⟩
noncomputable def okQ:Nat->QT->Bool
 | d,.sm _=>decide (d<=6)
 | d,.neg q=>decide (d<=6) && okQ (d+1) q
 | d,.both q r=>decide (d<=6) && (okQ (d+1) q && okQ (d+1) r)
 | d,.either q r=>decide (d<=6) && (okQ (d+1) q && okQ (d+1) r)
 | _,.bad _ _=>false
noncomputable def QT.plain:QT->Bool
 | .sm _=>true
 | .bad w _=>(JL.lookup w).isNone
 | _=>false
noncomputable def QT.wd:QT->Str
 | .sm s=>s.word | .neg _ => "not" | .both _ _ => "both" | .either _ _ => "either" | .bad w _=>w
noncomputable def QT.parts:QT->List QT
 | .neg q=>[q] | .both q r=>[q,r] | .either q r=>[q,r] | _=>[]
noncomputable def QT.jn:QT->Bool
 | .neg _=>true | .both _ _=>true | .either _ _=>true | _=>false
theorem mM(h:6 < d):∀ q:QT,okQ d q=false
 | .sm _=>aM (by omega)
 | .neg _=>by rw [okQ,aM (by omega)];rfl
 | .both _ _=>by rw [okQ,aM (by omega)];rfl
 | .either _ _=>by rw [okQ,aM (by omega)];rfl
 | .bad _ _=>rfl
theorem QT.jn_or:∀ {q:QT},q.plain=false->q.jn=true\/∃ x vs,q = .bad x vs
 | .neg _,_=>.inl rfl
 | .both _ _,_=>.inl rfl
 | .either _ _,_=>.inl rfl
 | .bad x vs,_=>.inr ⟨x,vs,rfl⟩
theorem xf{v:V}(h:JL.lookup x=some v):∃ n:Nat,v = .int n:=by
 have:=PySem.mem_of_lookup h;simp only [JL,al_mc,List.not_mem_nil,or_false,Prod.mk.injEq] at this;rcases this with ⟨_,e⟩ | ⟨_,e⟩ | ⟨_,e⟩
 ·exact ⟨2,e⟩
 ·exact ⟨3,e⟩
 ·exact ⟨3,e⟩
theorem zci(h:d<=6):∀ {q:QT},q.plain=true->okQ d q=okQ 1 q
 | .sm _,_=>by rw [okQ,okQ,aO h];rfl
 | .bad _ _,_=>rfl
theorem mO(h:d<=6):∀ {q:QT},q.jn=true->okQ d q=q.parts.all (okQ (d+1))
 | .neg _,_=>by rw [okQ,aO h];simp [QT.parts]
 | .both _ _,_=>by rw [okQ,aO h];simp [QT.parts]
 | .either _ _,_=>by rw [okQ,aO h];simp [QT.parts]
theorem QAt.tup   : ∀ {q:QT},QAt H a q->∃ xs,H a=some (.tup (.str q.wd::xs))/\xs.length<=1000/\(JL.lookup q.wd).isSome = !q.plain
 | .sm (.among _),⟨l,e,_⟩=>⟨_,e,aB rfl,rfl⟩
 | .sm .all,e=>⟨_,e,aB rfl,rfl⟩
 | .sm .none,e=>⟨_,e,aB rfl,rfl⟩
 | .sm (.is _),e=>⟨_,e,aB rfl,rfl⟩
 | .sm (.below _),e=>⟨_,e,aB rfl,rfl⟩
 | .sm (.above _),e=>⟨_,e,aB rfl,rfl⟩
 | .neg _,⟨_,e,_⟩=>⟨_,e,aB rfl,rfl⟩
 | .both _ _,⟨_,_,e,_⟩=>⟨_,e,aB rfl,rfl⟩
 | .either _ _,⟨_,_,e,_⟩=>⟨_,e,aB rfl,rfl⟩
 | .bad x vs,⟨e,l,_⟩=>⟨_,e,l,by show (JL.lookup x).isSome = !((JL.lookup x).isNone);cases JL.lookup x <;> rfl⟩
theorem QAt.parts   : ∀ {q:QT},QAt H a q->q.jn=true->∃ bs:List Addr,H a=some (.tup (.str q.wd::bs.map V.ref))/\bs.length=q.parts.length/\bs.length<=2/\JL.lookup q.wd=some (.int (bs.length+1:Nat))/\∀ (i:Nat) b p,bs[i]?=some b->q.parts[i]?=some p->QAt H b p
 | .neg q,⟨b,e,h⟩,_=>⟨[b],e,rfl,aB rfl,rfl,λ i b p e1 e2=>by match i,e1,e2 with | 0,e1,e2=>cases e1;cases e2;exact h⟩
 | .both q r,⟨b,c,e,h1,h2⟩,_=>⟨[b,c],e,rfl,aB rfl,rfl,λ i b p e1 e2=>by
   match i,e1,e2 with
   | 0,e1,e2=>cases e1;cases e2;exact h1
   | 1,e1,e2=>cases e1;cases e2;exact h2⟩
 | .either q r,⟨b,c,e,h1,h2⟩,_=>⟨[b,c],e,rfl,aB rfl,rfl,λ i b p e1 e2=>by
   match i,e1,e2 with
   | 0,e1,e2=>cases e1;cases e2;exact h1
   | 1,e1,e2=>cases e1;cases e2;exact h2⟩
theorem kJ(x:V)(xs:List V):bw (x::xs) (some 1) none=xs:=L2.cut_drop (x::xs) (b:=1) (by simp)
theorem fO(x:V)(xs:List V):¬ (HT.sIx (x::xs).length 0 (some 1)=0/\HT.sIx (x::xs).length (x::xs).length none=(x::xs).length):=λ z=>by
 have:=z.1;rw [show (some (1:Int))=some ((1:Nat):Int) from rfl,HT.sIx_nat] at this;rw [List.length_cons] at this;omega
noncomputable def pA:Sp:=λ vs H Q _=>∃ (a:Addr) (x:Str) (xs:List V),vs=[.ref a]/\H a=some (.tup (.str x::xs))/\Q (.bl (JL.lookup x).isSome) H
theorem zfn:aA ["asked"] ["asked"] (av oi):=by walk_at "sc"
theorem zcO(T:Txt K mg t)(gI:DcK w K mg "JOINING" JL)(F:Fun K "is_joined" "is_joined" oi f fd):FnOk P w K mg base CX0 1 f fd ["asked"] pA:=by
 refine F.ok zfn (λ vs H Q E h=>?_) (λ cdv A outer s H vs Q E hr h=>?_)
 ·obtain ⟨a,x,xs,rfl,_⟩:=h;rfl
 ·obtain ⟨a,x,xs,rfl,ha,q⟩:=h;refine ⟨_,(ao (ay (zdR (gI.pin (aN (bL K) (pv 0) ae (λ _ _=>rfl)))))),?_⟩;exact ⟨_,rfl,a,_,_,_,rfl,rfl,SqT.of ha,bW (by decide) rfl,x,rfl,q⟩
noncomputable def CkS(P:Program)(w:World)(K:W.Frag)(mg:Str->Option Value)(base:Heap)(t:Ad)(H:Hp)(l:Addr):Prop:=
 FnV K H l/\∃ fd ps spl,FnOk P w K mg base (CXr P w) 3 l fd ps spl/\Binds K fd ps []/\∀ (H1:Hp) (a:Addr) (q:QT) (Q:VK) (E:XK),Same H H1->QAt H1 a q->q.plain=true->
  (okQ 1 q=true->∀ H2,Same H1 H2->Q .non H2)->(okQ 1 q=false->∀ H2,Same H1 H2->E (.ref t.bx) none H2)->spl [.ref a] H1 Q E
theorem gt{l:Addr}(h:FnV K H l)(s:Same H H'):FnV K H' l:=h.elim .inl λ ⟨a,b,c,d,e⟩=>.inr ⟨a,b,c,d,s _ _ e⟩
theorem CkS.same{l:Addr}(c:CkS P w K mg base t H l)(s:Same H H'):CkS P w K mg base t H' l:=
 let ⟨v,fd,ps,spl,F,b,h⟩:=c;⟨gt v s,fd,ps,spl,F,b,λ H1 a q Q E s1=>h H1 a q Q E (s.trans s1)⟩
noncomputable def pq(P:Program)(w:World)(K:W.Frag)(mg:Str->Option Value)(base:Heap)(t:Ad):Nat->Sp
 | 0=>λ _ _ _ _=>False
 | m+1=>λ vs H Q E=>∃ (a l:Addr) (d:Nat) (q:QT),vs=[.ref a,.int d,.ref l]/\QAt H a q/\7<=d+m/\d<=7/\CkS P w K mg base t H l/\(okQ d q=true->∀ H',Same H H'->Q .non H')/\(okQ d q=false->∀ H',Same H H'->E (.ref t.bx) none H')
theorem sc_check_within:aA ["asked", "depth", "check_simple", "part"] ["asked", "depth", "check_simple"] (av nY):=by walk_at "sc"
theorem zcF{m:Nat}(T:Txt K mg t)(gI:DcK w K mg "JOINING" JL)(gL:Cal P w K mg base CX0 1 "is_joined" ["asked"] pA)(iH:Cal P w K mg base (CXr P w) (3+m) "check_within" ["asked", "depth", "check_simple"] (pq P w K mg base t m))(F:Fun K "check_within" "check_within" nY f fd):
  FnOk P w K mg base (CXr P w) (3+m+1) f fd ["asked", "depth", "check_simple"] (pq P w K mg base t (m+1)):=by
 refine F.okX sc_check_within (λ vs H Q E h=>?_) (λ cdv A outer s H vs Q E hr h=>?_)
 ·obtain ⟨a,l,d,q,rfl,_⟩:=h;rfl
 ·obtain ⟨a,l,d,q,rfl,hq,hd,hd7,C,k1,k2⟩:=h;obtain ⟨xs,ha,hx,hj⟩:=hq.tup;refine ⟨_,(ak (aS (aG dh (pv 1) (bf T.zh) (aF _)) (ao (eF eG T.ju rfl (by rfl) T.hU (aa aD ad)))
   aY)
  (ak (aS (PW.pt (eZ (ef (c9 (aP (dr K) (by rfl) T.dE PyProof.Rows.Boot.«isinstance» (aa (pv 0) (aa (ix T.tI PyProof.Rows.Boot.«tuple») ad))))) (eZ (aG bM (aP (cr K) (by rfl) T.bE PyProof.Rows.Boot.«len» (aa (pv 0) ad)) ae (aF _)) (fL (ef (c9 (aP (dr K) (by rfl) T.dE PyProof.Rows.Boot.«isinstance» (aa (aN (bL K) (pv 0) ae (λ _ _=>rfl)) (aa (ix T.zcb PyProof.Rows.Boot.«str») ad))))))))) (ao (eF eG T.ju rfl (by rfl) T.hU (aa aD ad)))
   aY)
  (ao (aS (ef (c9 (gL.pe hr ax (aa (pv 0) ad) (by omega)))) (ao (bV (mU P w K mg base 3 hr cV (aa (pv 0) ad) (pv 2) (by omega))))
   (ao (aS (aG fD (aP (cr K) (by rfl) T.bE PyProof.Rows.Boot.«len» (aa (pv 0) ad)) (gI.pix (aN (bL K) (pv 0) ae (λ _ _=>rfl))) (aF _)) (ao (eF eG T.ju rfl (by rfl) T.hU (aa aD ad)))
   (ao (fK PassesOwn.leaving rfl (kg (dk (gc K) (pv 0) (cL ae) d9)) (aR (i:=3) sc_check_within.nd rfl (Or.inl rfl))
   (ao (bV (iH.pe hr cV (aa (pv 3) (aa (aj a8 (pv 1) ae) (aa (pv 2) ad))) (by omega)))))))))))),?_⟩
  refine ⟨_,rfl,_,_,rfl,rfl,_,rfl,?_⟩;by_cases d6:6 < d
  ·rw [aO (by omega:(6:Int) < d)];exact aw ⟨by show 1<=sizeLine;decide,k2 (mM d6 q) _ (Same.refl _)⟩
  rw [aM (by omega:¬ (6:Int) < d)];refine ap ?_;refine ⟨_,rfl,_,_,_,rfl,iW (.tup ha) T.z7,_,rfl,ap ⟨_,rfl,a,_,rfl,.inr (SqT.of ha),rfl,_,rfl,?_⟩⟩;rw [show decide (V.int (((V.str q.wd::xs).length:Nat):Int)=V.int 0)=false from aM λ z=>by have:=V.int.inj z;rw [List.length_cons] at this;omega];refine ap ⟨_,rfl,a,_,_,_,rfl,rfl,SqT.of ha,bW (by decide) rfl,_,_,_,rfl,iW (.str _) T.zY,_,rfl,ap ?_⟩;refine ⟨_,rfl,a,_,_,rfl,ha,_,rfl,?_⟩;rw [hj];cases hp:q.plain with
  | true=>
   obtain ⟨v,fd',ps',spl,G,hb,hC⟩:=C;have e1:okQ d q=okQ 1 q:=zci (by omega) hp;refine aw ⟨l,fd',ps',spl,rfl,v,G,hb,_,rfl,v,hC H a q _ _ (Same.refl _) hq hp (λ z H2 s2=>k1 (e1.trans z) H2 s2) λ z H2 s2=>k2 (e1.trans z) H2 s2⟩
  | false=>
   obtain ⟨n,hn,hc⟩:∃ n:Nat,JL.lookup q.wd=some (.int n)/\((n=xs.length+1/\q.jn=true)\/(n≠xs.length+1/\okQ d q=false)):=by
    rcases QT.jn_or hp with j | ⟨x,vs,rfl⟩
    ·obtain ⟨bs,hb,_,_,hl,_⟩:=hq.parts j;rw [ha] at hb;cases hb;exact ⟨_,hl,.inl ⟨by rw [ag],j⟩⟩
    ·obtain ⟨e,_,n1,_⟩:=id hq;rw [ha] at e;cases e;cases hl:JL.lookup x with
     | none=>rw [show (QT.bad x _).plain=(JL.lookup x).isNone from rfl,hl] at hp;cases hp
     | some v=>
      obtain ⟨n,rfl⟩:=xf hl;refine ⟨n,hl,.inr ⟨λ z=>n1 (by rw [hl,z]),rfl⟩⟩
   refine ap ⟨_,rfl,a,_,rfl,.inr (SqT.of ha),_,rfl,a,_,_,_,rfl,rfl,SqT.of ha,bW (by decide) rfl,q.wd,_,rfl,hn,rfl,_,rfl,?_⟩;rcases hc with ⟨rfl,j⟩ | ⟨n1,z⟩
   ·rw [show (!decide (V.int (((V.str q.wd::xs).length:Nat):Int)=V.int ((xs.length+1:Nat):Int)))=false by simp];obtain ⟨bs,hb,hbl,hb2,_,hbq⟩:=hq.parts j;rw [ha] at hb;cases hb;have ep:=mO (d:=d) (by omega) j;refine ap ⟨_,rfl,1,rfl,a,_,rfl,SqT.of ha,?_,λ pt hpt=>⟨pt,rfl,⟨_,SqT.of af⟩,⟨?_⟩⟩⟩
    ·exact fO _ _
    have ec:bw (V.str q.wd::bs.map V.ref) (some 1) none=bs.map V.ref:=kJ _ _;rw [ec];have s1:Same H (upd H pt (.tup (bs.map V.ref))):=Same.new hpt;have h1:(upd H pt (.tup (bs.map V.ref))) pt=some (.tup (bs.map V.ref)):=af;generalize upd H pt (.tup (bs.map V.ref))=H1 at s1 h1;refine yY (K:=K) (a:=pt) (xs:=bs.map V.ref) (λ i σ H'=>∃ v3,σ=[some (.ref a),some (.int d),some (.ref l),v3]/\Same H1 H'/\∀ (k:Nat) p,k < i->q.parts[k]?=some p->okQ (d+1) p=true) ⟨none,rfl,Same.refl _,λ k p h=>absurd h (Nat.not_lt_zero _)⟩ ?_ ?_ ?_
    ·rintro i σ H' _ ⟨_,_,s2,_⟩;exact SqT.of (s2 _ _ h1)
    ·rintro i x σ H' hx ⟨v3,rfl,s2,hk⟩;rw [aL] at hx;obtain ⟨b,hb,rfl⟩:=Option.map_eq_some_iff.mp hx;have hi:i < q.parts.length:=by rw [← hbl];exact (al_gs.mp hb).1
     have hpi:=aH hi;obtain ⟨m',rfl⟩:∃ m',m=m' + 1:=⟨m - 1,by omega⟩
     refine ⟨_,rfl,_,rfl,_,_,rfl,rfl,_,rfl,b,l,d+1,q.parts[i],rfl,(hbq i b _ hb hpi).kt (bZ (s1.trans s2)),by omega,by omega,C.same (s1.trans s2),λ z H3 s3=>⟨_,rfl,s2.trans s3,λ k p hk' e=>?_⟩,λ z H3 s3=>k2 ?_ H3 ((s1.trans s2).trans s3)⟩
     ·rcases Nat.lt_succ_iff_lt_or_eq.mp hk' with h | rfl
      ·exact hk k p h e
      ·rw [hpi] at e;cases e;exact z
     ·rw [ep];exact List.all_eq_false.mpr ⟨_,List.getElem_mem hi,by rw [z];exact bi⟩
    ·rintro σ H' ⟨v3,rfl,s2,hk⟩;refine k1 ?_ H' (s1.trans s2);rw [ep,List.all_eq_true];intro p hp;obtain ⟨k,hk'⟩:=List.getElem?_of_mem hp;refine hk k p ?_ hk';have:=(al_gs.mp hk').1;rw [ag,hbl];exact this
   ·rw [show (!decide (V.int (((V.str q.wd::xs).length:Nat):Int)=V.int (n:Int)))=true by
     rw [aM λ y=>n1 (by have:=V.int.inj y;rw [List.length_cons] at this;omega)];rfl]
    exact aw ⟨by show 1<=sizeLine;decide,k2 z _ (Same.refl _)⟩
noncomputable def Sm.things:Sm->List Int
 | .is n=>[n] | .below n=>[n] | .above n=>[n] | .among ns=>ns | _=>[]
noncomputable def u6(P:Program)(w:World)(K:W.Frag)(mg:Str->Option Value)(base:Heap)(t:Ad):Sp:=λ vs H Q E=>∃ (a l:Addr) (q:QT),vs=[.ref a,.ref l]/\QAt H a q/\CkS P w K mg base t H l/\(okQ 1 q=true->∀ H',Same H H'->Q .non H')/\(okQ 1 q=false->∀ H',Same H H'->E (.ref t.bx) none H')
theorem zfe:aA ["asked", "check_simple"] ["asked", "check_simple"] (av nR):=by walk_at "sc"
theorem zcA(T:Txt K mg t)(iH:Cal P w K mg base (CXr P w) 10 "check_within" ["asked", "depth", "check_simple"] (pq P w K mg base t 7))(F:Fun K "check_joined" "check_joined" nR f fd):
  FnOk P w K mg base (CXr P w) 11 f fd ["asked", "check_simple"] (u6 P w K mg base t):=by
 refine F.okX zfe (λ vs H Q E h=>?_) (λ cdv A outer s H vs Q E hr h=>?_)
 ·obtain ⟨a,l,q,rfl,_⟩:=h;rfl
 ·obtain ⟨a,l,q,rfl,hq,C,k1,k2⟩:=h;refine ⟨_,(ao (bV (iH.pe hr cV (aa (pv 0) (aa ae (aa (pv 1) ad)))))),?_⟩;exact ⟨_,rfl,_,rfl,a,l,1,q,rfl,hq,by decide,by decide,C,k1,k2⟩
noncomputable def vA(K:W.Frag):Sp:=λ vs H Q _=>∃ (a:Addr) (s:Sm),vs=[.ref a]/\SmAt H a s/\(∀ (l:Addr),s.word = "among" -> H l=some (.lst (s.things.map V.int))->Q (.ref l) H)/\∀ (p:Addr),s.word ≠ "among" -> H p=none->Q (.ref p) (upd H p (.tup (s.things.map V.int)))
theorem zfy:aA ["simple"] ["simple"] (av oY):=by walk_at "sc"
theorem zdt(T:Txt K mg t)(F:Fun K "things_named" "things_named" oY f fd):FnOk P w K mg base CX0 1 f fd ["simple"] (vA K):=by
 refine F.ok zfy (λ vs H Q E h=>?_) (λ cdv A outer s H vs Q E hr h=>?_)
 ·obtain ⟨a,s,rfl,_⟩:=h;rfl
 ·obtain ⟨a,q,rfl,hq,k1,k2⟩:=h;refine ⟨_,(ak (aS (aG bM (aN (bL K) (pv 0) ae (λ _ _=>rfl)) aD (aF _)) (ak (aS (ef (c9 (aP (dr K) (by rfl) T.dE PyProof.Rows.Boot.«isinstance» (aa (aN (bL K) (pv 0) ae (λ _ _=>rfl)) (aa (ix T.ka PyProof.Rows.Boot.«list») ad))))) ko
   aY)
  (ao (ay (aN (bL K) (pv 0) ae (λ _ _=>rfl)))))
   aY)
  (ao (ay (dk (gc K) (pv 0) (cL ae) d9)))),?_⟩
  cases q with
  | among ns=>
   obtain ⟨l,ha,hl,_⟩:=hq;refine ⟨_,rfl,a,_,_,_,rfl,rfl,SqT.of ha,rfl,rfl,_,rfl,aw ?_⟩;refine ⟨_,rfl,a,_,_,_,rfl,rfl,SqT.of ha,rfl,_,_,_,rfl,iW (.lst hl) T.zL,_,rfl,ap ?_⟩;exact ⟨_,rfl,a,_,_,_,rfl,rfl,SqT.of ha,rfl,k1 l rfl hl⟩
  | all=>
   refine ⟨_,rfl,a,_,_,_,rfl,rfl,SqT.of hq,rfl,rfl,_,rfl,ap ?_⟩;exact ⟨_,rfl,1,rfl,a,_,rfl,SqT.of hq,fO _ _,λ p hp=>k2 p (by decide) hp⟩
  | none=>
   refine ⟨_,rfl,a,_,_,_,rfl,rfl,SqT.of hq,rfl,rfl,_,rfl,ap ?_⟩;exact ⟨_,rfl,1,rfl,a,_,rfl,SqT.of hq,fO _ _,λ p hp=>k2 p (by decide) hp⟩
  | is n=>
   refine ⟨_,rfl,a,_,_,_,rfl,rfl,SqT.of hq,rfl,rfl,_,rfl,ap ?_⟩;exact ⟨_,rfl,1,rfl,a,_,rfl,SqT.of hq,fO _ _,λ p hp=>k2 p (by decide:("is" : Str) ≠ "among") hp⟩
  | below n=>
   refine ⟨_,rfl,a,_,_,_,rfl,rfl,SqT.of hq,rfl,rfl,_,rfl,ap ?_⟩;exact ⟨_,rfl,1,rfl,a,_,rfl,SqT.of hq,fO _ _,λ p hp=>k2 p (by decide:("below" : Str) ≠ "among") hp⟩
  | above n=>
   refine ⟨_,rfl,a,_,_,_,rfl,rfl,SqT.of hq,rfl,rfl,_,rfl,ap ?_⟩;exact ⟨_,rfl,1,rfl,a,_,rfl,SqT.of hq,fO _ _,λ p hp=>k2 p (by decide:("above" : Str) ≠ "among") hp⟩
noncomputable def GdS(P:Program)(w:World)(K:W.Frag)(mg:Str->Option Value)(base:Heap)(H:Hp)(g:Addr):Prop:=
 FnV K H g/\∃ fd ps spg,FnOk P w K mg base CX0 1 g fd ps spg/\Binds K fd ps []/\∀ (n:Int) (H1:Hp) (Q:VK) (E:XK),Q (.bl true) H1->spg [.int n] H1 Q E
theorem GdS.same(c:GdS P w K mg base H g)(s:Same H H'):GdS P w K mg base H' g:=⟨gt c.1 s,c.2⟩
theorem xj   : ∀ {s:Sm},SmAt H a s->∃ xs,H a=some (.tup (.str s.word::xs))/\SL.lookup s.word=some (.int (xs.length+1:Nat))/\s.things.length<=1000
 | .among _,⟨l,e,_,z⟩=>⟨_,e,rfl,z⟩
 | .all,e=>⟨_,e,rfl,Nat.zero_le _⟩
 | .none,e=>⟨_,e,rfl,Nat.zero_le _⟩
 | .is _,e=>⟨_,e,rfl,aB rfl⟩
 | .below _,e=>⟨_,e,rfl,aB rfl⟩
 | .above _,e=>⟨_,e,rfl,aB rfl⟩
theorem xi{v:V}(h:SL.lookup x=some v):∃ n:Nat,v = .int n:=by
 have:=PySem.mem_of_lookup h;simp only [SL,al_mc,List.not_mem_nil,or_false,Prod.mk.injEq] at this;rcases this with ⟨_,e⟩ | ⟨_,e⟩ | ⟨_,e⟩ | ⟨_,e⟩ | ⟨_,e⟩ | ⟨_,e⟩
 ·exact ⟨1,e⟩
 ·exact ⟨1,e⟩
 all_goals exact ⟨2,e⟩
noncomputable def pp(P:Program)(w:World)(K:W.Frag)(mg:Str->Option Value)(base:Heap)(t:Ad):Sp:=λ vs H Q E=>∃ (a g:Addr) (q:QT),vs=[.ref a,.ref g]/\QAt H a q/\q.plain=true/\GdS P w K mg base H g/\(okQ 1 q=true->∀ H',Same H H'->Q .non H')/\(okQ 1 q=false->∀ H',Same H H'->E (.ref t.bx) none H')
theorem zbD:(["thing", "is_good"]:List Str).Nodup:=by decide +kernel
theorem zfi:aA ["simple", "is_good"] ["simple", "is_good"] (av nX):=by walk_at "sc"
theorem zcD(T:Txt K mg t)(jw:DcK w K mg "SIMPLE" SL)(jD:Cal P w K mg base CX0 1 "things_named" ["simple"] (vA K))(F:Fun K "check_simple_of" "check_simple_of" nX f fd):
  FnOk P w K mg base (CXr P w) 2 f fd ["simple", "is_good"] (pp P w K mg base t):=by
 refine F.okX zfi (λ vs H Q E h=>?_) (λ cdv A outer s H vs Q E hr h=>?_)
 ·obtain ⟨a,l,q,rfl,_⟩:=h;rfl
 ·obtain ⟨a,g,q,rfl,hq,hp,C,k1,k2⟩:=h;refine ⟨_,(ak (aS (PW.pt (eZ (zek (jw.pnin (aN (bL K) (pv 0) ae (λ _ _=>rfl)))) (fL (aG fD (aP (cr K) (by rfl) T.bE PyProof.Rows.Boot.«len» (aa (pv 0) ad)) (jw.pix (aN (bL K) (pv 0) ae (λ _ _=>rfl))) (aF _))))) (ao (eF eG T.ju rfl (by rfl) T.hU (aa aD ad)))
   aY)
  (ao (aS (ef (c9 (aP (qW K rfl) (by rfl) T.mH PyProof.Rows.Boot.«all» (aa (bX (N:=["thing", "is_good"]) (fr:=[none,some 1]) ⟨rfl,rfl,rfl,rfl,rfl,rfl⟩ rfl (PI.alt (bY (jD.pe hr ax (aa (pv 0) ad))) (kg (jD.pe hr ax (aa (pv 0) ad))))
    (λ C fp s H=>⟨aR (i:=0) zbD rfl (Or.inl rfl),bz,(mU P w K mg base 1 hr ax (aa (pv 0) ad) (pv 1) (by omega))⟩)) ad)))) (ao (eF eG T.ju rfl (by rfl) T.hU (aa aD ad)))
   aY))),?_⟩
  cases q with
  | neg q=>cases hp
  | both q r=>cases hp
  | either q r=>cases hp
  | bad x vs=>
   obtain ⟨ha,hv,_,n2⟩:=hq;have n2:=n2 (by rw [← Option.isNone_iff_eq_none];exact hp);have k2:=k2 rfl _ (Same.refl _);refine ⟨_,rfl,a,_,_,_,rfl,rfl,SqT.of ha,bW (by decide) rfl,x,rfl,_,rfl,?_⟩;cases hl:SL.lookup x with
   | none=>exact aw (aw ⟨by show 1<=sizeLine;decide,k2⟩)
   | some v=>
    obtain ⟨n,rfl⟩:=xi hl;refine ap ⟨_,rfl,a,_,rfl,.inr (SqT.of ha),_,rfl,a,_,_,_,rfl,rfl,SqT.of ha,bW (by decide) rfl,x,_,rfl,hl,rfl,_,rfl,?_⟩;rw [show (!decide (V.int (((V.str x::vs).length:Nat):Int)=V.int (n:Int)))=true by
     rw [aM λ y=>n2 (by rw [hl];exact congrArg some y.symm)];rfl]
    exact aw ⟨by show 1<=sizeLine;decide,k2⟩
  | sm s=>
   obtain ⟨xs,ha,hl,hz⟩:=xj (show SmAt H a s from hq);refine ⟨_,rfl,a,_,_,_,rfl,rfl,SqT.of ha,bW (by decide) rfl,s.word,rfl,_,rfl,?_⟩;rw [hl];refine ap ⟨_,rfl,a,_,rfl,.inr (SqT.of ha),_,rfl,a,_,_,_,rfl,rfl,SqT.of ha,bW (by decide) rfl,s.word,_,rfl,hl,rfl,_,rfl,?_⟩;rw [show (!decide (V.int (((V.str s.word::xs).length:Nat):Int)=V.int ((xs.length+1:Nat):Int)))=false by simp];refine ap ?_;have k1:=k1 rfl;have hq:SmAt H a s:=hq;obtain ⟨vg,fd',ps',spg,G,hb,hg⟩:=C;have he:(s.things.map V.int).length=s.things.length:=ag _;have fin:∀ (H1:Hp),Same H H1->∀ q:Addr,H1 q=none->∃ (p:Addr) (bs:List Bool),[V.ref q]=[.ref p]/\SqL K (upd H1 q (.lst (List.replicate s.things.length (.bl true)))) p (bs.map V.bl)/\bs.all id=true:=λ H1 s1 q hq=>by
    refine ⟨q,List.replicate s.things.length true,rfl,.of ?_,?_⟩
    ·rw [af,List.map_replicate]
    ·rw [List.all_eq_true];intro b hb;exact List.eq_of_mem_replicate hb
   by_cases hw:s.word = "among"
   ·refine .inl ⟨_,rfl,a,s,rfl,hq,λ l _ hl=>⟨l,rfl,⟨_,SqL.of hl⟩,⟨cB (xs:=s.things.map V.int) (λ i acc H'=>Same H H'/\acc=List.replicate i (.bl true)) ⟨Same.refl _,rfl⟩ ?_ ?_ ?_ ?_⟩⟩,λ p z=>absurd hw z⟩
    ·rintro i acc H' hi ⟨s1,rfl⟩;exact ⟨SqL.of (s1 _ _ hl),by rw [List.length_replicate];exact Nat.le_refl _⟩
    ·rw [he];exact Nat.le_of_lt (a9 hz)
    ·rintro i x acc H' hx hlt ⟨s1,rfl⟩;rw [he] at hlt;rw [aL,aH hlt] at hx;cases hx;refine ⟨Wk.set rfl,tT ⟨g,fd',ps',spg,rfl,gt vg s1,G,hb,_,rfl,gt vg s1,hg _ H' _ _ (cw (by rw [he];exact hlt) ⟨s1,?_⟩)⟩⟩;rw [List.replicate_succ']
    ·rintro acc H' ⟨s1,rfl⟩ q hq;rw [he];obtain ⟨p,bs,e1,e2,e3⟩:=fin H' s1 q hq;refine ⟨p,bs,e1,e2,?_⟩;rw [e3];exact ⟨_,rfl,ap (k1 _ (az s1 hq))⟩
   ·refine .inr ⟨_,rfl,a,s,rfl,hq,λ l z=>absurd z hw,λ p0 _ hp0=>⟨p0,rfl,⟨_,SqT.of af⟩,⟨?_⟩⟩⟩;have s0:Same H (upd H p0 (.tup (s.things.map V.int))):=Same.new hp0;have h0:(upd H p0 (.tup (s.things.map V.int))) p0=some (.tup (s.things.map V.int)):=af;generalize upd H p0 (.tup (s.things.map V.int))=H0 at s0 h0;refine lW (xs:=s.things.map V.int) (λ i acc H'=>Same H0 H'/\acc=List.replicate i (.bl true)) ⟨Same.refl _,rfl⟩ ?_ ?_ ?_ ?_
    ·rintro i acc H' hi ⟨s1,rfl⟩;exact ⟨SqT.of (s1 _ _ h0),by rw [List.length_replicate];exact Nat.le_refl _⟩
    ·rw [he];exact Nat.le_of_lt (a9 hz)
    ·rintro i x acc H' hx hlt ⟨s1,rfl⟩;rw [he] at hlt;rw [aL,aH hlt] at hx;cases hx;refine ⟨Wk.set rfl,tT ⟨g,fd',ps',spg,rfl,gt vg (s0.trans s1),G,hb,_,rfl,gt vg (s0.trans s1),hg _ H' _ _ (cw (by rw [he];exact hlt) ⟨s1,?_⟩)⟩⟩;rw [List.replicate_succ']
    ·rintro acc H' ⟨s1,rfl⟩ q hq;rw [he];obtain ⟨p,bs,e1,e2,e3⟩:=fin H' (s0.trans s1) q hq;refine ⟨p,bs,e1,e2,?_⟩;rw [e3];exact ⟨_,rfl,ap (k1 _ (az (s0.trans s1) hq))⟩
noncomputable def zas(s:Stmt):Expr:=match cu s with
 | [.Expr (.Call _ [_,l] _ _) _]=>l
 | _ :: .Assign _ (.Call _ [_,l] _ _) _::_=>l
 | _=>.Constant .none 0 ⟨0,0,0,0⟩
noncomputable def sI(s:Stmt):Pos:=match zas s with
 | .Lambda _ _ _ p=>p
 | _=>⟨0,0,0,0⟩
noncomputable def sJ(x:Str):Str:=x ++ ".<locals>." ++ "<lambda>"
theorem uJ(s:Same (upd H c o) H')(n:H c=none):Same H (del H' c):=λ b u e=>by
 have hb:b≠c:=aK e n;rw [c5 hb];exact s b u (by rw [ai hb];exact e)
theorem o5(s:Same (del H c) H')(n:H c=some o):Same H (upd H' c o):=λ b u e=>by
 by_cases hb:b=c
 ·subst hb;rw [n] at e;cases e;exact af
 ·rw [ai hb];exact s b u (by rw [c5 hb];exact e)
theorem gY{o:Obj}(n:H c=some (FrO o c)):Kt H (del H c):=λ b u e=>by
 by_cases hb:b=c
 ·subst hb;rw [n] at e;cases e;exact .inr (.inr ⟨_,_,rfl⟩)
 ·exact .inl (by rw [c5 hb];exact e)
theorem CdH.same(x:CdH H c q)(s:Same H H'):CdH H' c q:=x.mono λ o e=>s _ _ e
theorem iC(x:cG H p pos q)(s:Same H H'):cG H' p pos q:=
 let ⟨ps,e,t,h⟩:=x;⟨ps,s _ _ e,t,h.imp id λ ⟨c,e,h⟩=>⟨c,e,CdH.same h s⟩⟩
theorem o9{ps:Array Value}(s:eK p H H')(e:H p=some (.tbl ps)):Kt H H':=λ b o h=>by
 by_cases hb:b=p
 ·subst hb;rw [e] at h;cases h;exact .inr (.inl ⟨_,rfl⟩)
 ·exact .inl (s b o hb h)
noncomputable def GdK(P:Program)(w:World)(K:W.Frag)(mg:Str->Option Value)(base:Heap)(g:Addr):Prop:=
 (∃ oc od fd sl,K.lookup g=some ⟨oc,od,.func fd,sl⟩)/\∃ fd ps spg,FnOk P w K mg base CX0 1 g fd ps spg/\Binds K fd ps []/\∀ (n:Int) (H1:Hp) (Q:VK) (E:XK),Q (.bl true) H1->spg [.int n] H1 Q E
theorem GdK.gds(h:GdK P w K mg base g)(H:Hp):GdS P w K mg base H g:=⟨.inl h.1,h.2⟩
noncomputable abbrev lqC:Str:=sJ "check_question_of"
noncomputable abbrev lpC:Pos:=sI kr
noncomputable def u8(P:Program)(w:World)(K:W.Frag)(mg:Str->Option Value)(base:Heap)(t:Ad):Sp:=λ vs H Q E=>∃ (a g:Addr) (q:QT),vs=[.ref a,.ref g]/\QAt H a q/\GdK P w K mg base g/\cG H t.p_check_question_of lpC lqC/\
 (okQ 1 q=true->∀ H',eK t.p_check_question_of H H'->cG H' t.p_check_question_of lpC lqC->Q .non H')/\(okQ 1 q=false->∀ H',eK t.p_check_question_of H H'->cG H' t.p_check_question_of lpC lqC->E (.ref t.bx) none H')
theorem zfh:aA ["question", "is_good"] ["question", "is_good"] (av kr):=by walk_at "sc"
theorem zcC(T:Txt K mg t)(B:fe base mg)(kX:Cal P w K mg base (CXr P w) 11 "check_joined" ["asked", "check_simple"] (u6 P w K mg base t))(k8:Cal P w K mg base (CXr P w) 2 "check_simple_of" ["simple", "is_good"] (pp P w K mg base t))(F:FunC K "check_question_of" "check_question_of" kr f fd t.gm t.p_check_question_of):
  FnOk P w K mg base (CXr P w) 12 f fd ["question", "is_good"] (u8 P w K mg base t):=by
 refine F.ok zfh (λ vs H Q E h=>?_) (λ A outer s H vs Q E hr h=>?_)
 ·obtain ⟨a,l,q,rfl,_⟩:=h;rfl
 ·obtain ⟨a,g,q,rfl,hq,hg,hT,k1,k2⟩:=h;refine ⟨_,(ao (bV (kX.peZ (i:=1) (y := "is_good") hr cV zgv (aa (pv 0) (aa (tV rfl rfl F.hd B) ad)) rfl rfl rfl rfl))),?_⟩;refine ⟨_,rfl,hT,λ H1 l sb hl hT1 LH=>⟨_,rfl,λ oc u hc ed ru=>?_⟩⟩;obtain ⟨ps0,eT,_⟩:=id hT;have kH1:Kt H H1:=o9 sb eT;obtain ⟨pm,c',ctv,eL,cd⟩:=LH;have s2:Same H1 (upd H1 (s.heap.objs.size+1) (FrO oc (s.heap.objs.size+1))):=Same.new hc;have h2c:(upd H1 (s.heap.objs.size+1) (FrO oc (s.heap.objs.size+1))) (s.heap.objs.size+1)=some (FrO oc (s.heap.objs.size+1)):=af;have back:∀ H2,Same (upd H1 (s.heap.objs.size+1) (FrO oc (s.heap.objs.size+1))) H2->eK t.p_check_question_of H (del H2 (s.heap.objs.size+1))/\cG (del H2 (s.heap.objs.size+1)) t.p_check_question_of lpC lqC:=λ H2 s3=>
   have s4:=uJ s3 hc
   ⟨λ b o nb e=>s4 b o (sb b o nb e),iC hT1 s4⟩
  refine ⟨a,l,q,rfl,hq.kt λ b o e=>?_,?_,λ z H2 s3=>k1 z _ (back H2 s3).1 (back H2 s3).2,λ z H2 s3=>k2 z _ (back H2 s3).1 (back H2 s3).2⟩
  ·exact (kH1 b o e).imp (λ e=>s2 b o e) id
  have FL:=r6 (CX:=CXr P w) (P:=P) (w:=w) (K:=K) (mg:=mg) (base:=base) eL "simple" 2 (λ v z=>pp P w K mg base t [v,z]) ?S (@zeN P w) (λ A outer s H v z Q E hr h=>?B) (λ us hl=>match us,hl with | [_],_=>rfl)
  case S=>exact ⟨rfl,rfl,rfl,by decide,rfl,by decide,.inl ⟨rfl,λ _ _=>rfl⟩⟩
  case B=>
   refine ⟨_,k8.pe hr zdN (aa (pv 0) (aa (pv 1) ad)),?_⟩;exact ⟨_,rfl,_,rfl,h⟩
  refine ⟨.inr ⟨_,_,_,_,s2 _ _ eL⟩,_,_,_,FL.1,FL.2,λ H3 a' q' Q' E' s3 hq' hp' j1 j2=>?_⟩;have h3c:=s3 _ _ h2c;refine ⟨.ref a',.ref g,oc,u,rfl,⟨s3 _ _ (s2 _ _ eL),CdH.same (CdH.same cd s2) s3⟩,h3c,ed,ru,a',g,q',rfl,hq'.kt (gY h3c),hp',hg.gds _,λ z H4 s4 _=>j1 z _ (o5 s4 h3c),λ z H4 s4=>j2 z _ (o5 s4 h3c)⟩
noncomputable def u7(t:Ad):Sp:=λ vs H Q E=>∃ (a:Addr) (q:QT),vs=[.ref a]/\QAt H a q/\cG H t.p_check_question_of lpC lqC/\
 (okQ 1 q=true->∀ H',eK t.p_check_question_of H H'->cG H' t.p_check_question_of lpC lqC->Q .non H')/\(okQ 1 q=false->∀ H',eK t.p_check_question_of H H'->cG H' t.p_check_question_of lpC lqC->E (.ref t.bx) none H')
theorem zfg:aA ["question"] ["question"] (av nV):=by walk_at "sc"
theorem zcB(T:Txt K mg t)(DW:DD K mg "is_whole" kx ["thing"])(kZ:Cal P w K mg base (CXr P w) 12 "check_question_of" ["question", "is_good"] (u8 P w K mg base t))(F:Fun K "check_question" "check_question" nV f fd):
  FnOk P w K mg base (CXr P w) 13 f fd ["question"] (u7 t):=by
 obtain ⟨g,zaR,fdg,G,bg⟩:=DW;have hg:GdK P w K mg base g:=by
  obtain ⟨oc,od,_,_,_,_,_,_,osl,_,lk,_⟩:=G.ex;exact ⟨⟨oc,od,fdg,osl,lk⟩,fdg,_,_,tL T G,bg,λ n H1 Q E q=>⟨n,rfl,q⟩⟩
 refine F.okX zfg (λ vs H Q E h=>?_) (λ cdv A outer s H vs Q E hr h=>?_)
 ·obtain ⟨a,q,rfl,_⟩:=h;rfl
 ·obtain ⟨a,q,rfl,hq,hT,k1,k2⟩:=h;refine ⟨_,(ao (bV (kZ.pe hr cV (aa (pv 0) (aa (di zaR) ad))))),?_⟩;exact ⟨_,rfl,a,g,q,rfl,hq,hg,hT,k1,k2⟩
noncomputable def Sm.holds:Sm->OI->Bool
 | .all,_=>true
 | .none,o=>decide (ov o = .non)
 | .is _,Option.none=>false
 | .below _,Option.none=>false
 | .above _,Option.none=>false
 | .among _,Option.none=>false
 | .is n,some x=>decide (V.int x=V.int n)
 | .below n,some x=>decide (x < n)
 | .above n,some x=>decide (n < x)
 | .among ns,some x=>inV (.int x) (ns.map V.int)
noncomputable def QT.holds:QT->OI->Bool
 | .sm s,o=>s.holds o
 | .neg q,o=>!q.holds o
 | .both q r,o=>q.holds o && r.holds o
 | .either q r,o=>q.holds o || r.holds o
 | .bad _ _,_=>false
noncomputable def uS:Sp:=λ vs H Q _=>∃ (a:Addr) (s:Sm) (o:OI),vs=[.ref a,ov o]/\SmAt H a s/\Q (.bl (s.holds o)) H
theorem ze8:aA ["simple", "value"] ["simple", "value"] (av nH):=by walk_at "sc"
theorem zcn(T:Txt K mg t)(F:Fun K "answers" "answers" nH f fd):FnOk P w K mg base CX0 1 f fd ["simple", "value"] uS:=by
 refine F.ok ze8 (λ vs H Q E h=>?_) (λ cdv A outer s H vs Q E hr h=>?_)
 ·obtain ⟨a,s,o,rfl,_⟩:=h;rfl
 ·obtain ⟨a,q,o,rfl,hq,k⟩:=h;have hu:=fu hr;refine ⟨_,(ak (aS (aG bM (aN (bL K) (pv 0) ae (λ _ _=>rfl)) aD (aF _)) (ao (ay eV))
   aY)
  (ak (aS (aG bM (aN (bL K) (pv 0) ae (λ _ _=>rfl)) aD (aF _)) (ao (ay (fE d5 (pv 1) bN (aF _))))
   aY)
  (ak (aS (aG d5 (pv 1) bN (aF _)) (ao (ay eV))
   aY)
  (ak (aS (aG bM (aN (bL K) (pv 0) ae (λ _ _=>rfl)) aD (aF _)) (ao (ay (fE bM (pv 1) (aN (bL K) (pv 0) ae (λ _ _=>rfl)) (aF _))))
   aY)
  (ak (aS (aG bM (aN (bL K) (pv 0) ae (λ _ _=>rfl)) aD (aF _)) (ao (ay (fE kd (pv 1) (aN (bL K) (pv 0) ae (λ _ _=>rfl)) (aF _))))
   aY)
  (ak (aS (aG bM (aN (bL K) (pv 0) ae (λ _ _=>rfl)) aD (aF _)) (ao (ay (fE dh (pv 1) (aN (bL K) (pv 0) ae (λ _ _=>rfl)) (aF _))))
   aY)
  (ao (ay (fE (ja K) (pv 1) (aN (bL K) (pv 0) ae (λ _ _=>rfl)) (by rfl)))))))))),?_⟩
  cases q with
  | all=>exact ⟨_,rfl,a,_,_,_,rfl,rfl,SqT.of hq,rfl,rfl,_,rfl,aw k⟩
  | none=>exact ⟨_,rfl,a,_,_,_,rfl,rfl,SqT.of hq,rfl,rfl,_,rfl,ap ⟨_,rfl,a,_,_,_,rfl,rfl,SqT.of hq,rfl,rfl,_,rfl,aw ⟨_,rfl,rfl,k⟩⟩⟩
  | is n=>
   refine ⟨_,rfl,a,_,_,_,rfl,rfl,SqT.of hq,rfl,rfl,_,rfl,ap ⟨_,rfl,a,_,_,_,rfl,rfl,SqT.of hq,rfl,rfl,_,rfl,ap ⟨_,rfl,rfl,_,rfl,?_⟩⟩⟩;cases o with
   | none=>exact aw k
   | some x=>exact ap ⟨_,rfl,a,_,_,_,rfl,rfl,SqT.of hq,rfl,rfl,_,rfl,aw ⟨_,rfl,_,rfl,a,_,_,_,rfl,rfl,SqT.of hq,rfl,rfl,k⟩⟩
  | below n=>
   refine ⟨_,rfl,a,_,_,_,rfl,rfl,SqT.of hq,rfl,rfl,_,rfl,ap ⟨_,rfl,a,_,_,_,rfl,rfl,SqT.of hq,rfl,rfl,_,rfl,ap ⟨_,rfl,rfl,_,rfl,?_⟩⟩⟩;cases o with
   | none=>exact aw k
   | some x=>exact ap ⟨_,rfl,a,_,_,_,rfl,rfl,SqT.of hq,rfl,rfl,_,rfl,ap ⟨_,rfl,a,_,_,_,rfl,rfl,SqT.of hq,rfl,rfl,_,rfl,aw ⟨_,rfl,_,rfl,a,_,_,_,rfl,rfl,SqT.of hq,rfl,_,_,rfl,rfl,k⟩⟩⟩
  | above n=>
   refine ⟨_,rfl,a,_,_,_,rfl,rfl,SqT.of hq,rfl,rfl,_,rfl,ap ⟨_,rfl,a,_,_,_,rfl,rfl,SqT.of hq,rfl,rfl,_,rfl,ap ⟨_,rfl,rfl,_,rfl,?_⟩⟩⟩;cases o with
   | none=>exact aw k
   | some x=>exact ap ⟨_,rfl,a,_,_,_,rfl,rfl,SqT.of hq,rfl,rfl,_,rfl,ap ⟨_,rfl,a,_,_,_,rfl,rfl,SqT.of hq,rfl,rfl,_,rfl,ap ⟨_,rfl,a,_,_,_,rfl,rfl,SqT.of hq,rfl,rfl,_,rfl,aw ⟨_,rfl,_,rfl,a,_,_,_,rfl,rfl,SqT.of hq,rfl,_,_,rfl,rfl,k⟩⟩⟩⟩
  | among ns=>
   obtain ⟨l,ha,hl,hz⟩:=hq;refine ⟨_,rfl,a,_,_,_,rfl,rfl,SqT.of ha,rfl,rfl,_,rfl,ap ⟨_,rfl,a,_,_,_,rfl,rfl,SqT.of ha,rfl,rfl,_,rfl,ap ⟨_,rfl,rfl,_,rfl,?_⟩⟩⟩;cases o with
   | none=>exact aw k
   | some x=>
    refine ap ⟨_,rfl,a,_,_,_,rfl,rfl,SqT.of ha,rfl,rfl,_,rfl,ap ⟨_,rfl,a,_,_,_,rfl,rfl,SqT.of ha,rfl,rfl,_,rfl,ap ⟨_,rfl,a,_,_,_,rfl,rfl,SqT.of ha,rfl,rfl,_,rfl,ap ⟨_,rfl,_,rfl,a,_,_,_,rfl,rfl,SqT.of ha,rfl,?_⟩⟩⟩⟩;refine ⟨l,_,rfl,.inl (SqL.of hl),rfl,?_,k⟩;rw [List.all_map];exact List.all_eq_true.mpr λ _ _=>rfl
theorem yk{f r:OI->Bool}(h0:H a=some (.lst ((each.map f).map V.bl)))(hz:each.length<=1000)(ht:∀ o H' (R:VK),R (.bl (r o)) H'->te [some (.bl (f o))] H' R)(k:∀ H' p,Same H H'->H' p=some (.lst ((each.map r).map V.bl))->Q (.ref p) H'):
  jE [none] (Itl K a) (dC 0) kI te σ H Q:=by
 refine ⟨cB (xs:=(each.map f).map V.bl) (λ i acc H'=>Same H H'/\acc=((each.take i).map r).map V.bl) ⟨Same.refl _,rfl⟩ ?_ ?_ ?_ ?_⟩
 ·rintro i acc H' hi ⟨s4,rfl⟩;exact ⟨SqL.of (s4 _ _ h0),by simp;omega⟩
 ·simp;exact Nat.le_of_lt (a9 hz)
 ·rintro i x acc H' hx hlt ⟨s4,rfl⟩;have hi:i < each.length:=by simpa using hlt
  simp [aH hi] at hx;subst hx;refine ⟨Wk.set rfl,tT (ht each[i] _ _ (cw hlt ⟨s4,?_⟩))⟩;rw [List.take_succ,aH hi,aJ,aJ];rfl
 ·rintro acc H' ⟨s4,rfl⟩ p hp;refine k _ p (az s4 hp) ?_;rw [af];simp
theorem rA{b:Addr}{f g r:OI->Bool}(h0:H a=some (.lst ((each.map f).map V.bl)))(h1:H b=some (.lst ((each.map g).map V.bl)))(hz:each.length<=1000)(ht:∀ o H' (R:VK),R (.bl (r o)) H'->te [some (.bl (f o)),some (.bl (g o))] H' R)(k:∀ H' p,Same H H'->H' p=some (.lst ((each.map r).map V.bl))->Q (.ref p) H'):
  jE [none,none] (Itz K a b) (mm K 2 (mj (dC 0) (mj (dC 1) sf))) kI te σ H Q:=by
 refine ⟨lX (xs:=(each.map f).map V.bl) (ys:=(each.map g).map V.bl) (λ i acc H'=>Same H H'/\acc=((each.take i).map r).map V.bl) ⟨Same.refl _,rfl⟩ each.length (by simp) ?_ (Nat.le_of_lt (a9 hz)) ?_ ?_⟩
 ·rintro i acc H' hi ⟨s4,rfl⟩;exact ⟨SqL.of (s4 _ _ h0),SqL.of (s4 _ _ h1),by simp;omega⟩
 ·rintro i x y acc H' T' hx hy hi ⟨s4,rfl⟩ hT;simp [aH hi] at hx hy;subst hx hy;refine ⟨T',_,rfl,SqT.of af,rfl,_,_,rfl,_,_,rfl,rfl,(Wk.set rfl).trans (Wk.set rfl),tT (ht each[i] _ _ (cw hi ⟨az s4 hT,?_⟩))⟩;rw [List.take_succ,aH hi,aJ,aJ];rfl
 ·rintro acc H' ⟨s4,rfl⟩ p hp;refine k _ p (az s4 hp) ?_;rw [af];simp
noncomputable def MkS(P:Program)(w:World)(K:W.Frag)(mg:Str->Option Value)(base:Heap)(H:Hp)(l:Addr)(each:List OI):Prop:=
 FnV K H l/\∃ fd ps spl,FnOk P w K mg base CX0 2 l fd ps spl/\Binds K fd ps []/\∀ (H1:Hp) (a:Addr) (s:Sm) (Q:VK) (E:XK),Same H H1->SmAt H1 a s->
  (∀ p H2,Same H1 H2->H2 p=some (.lst ((each.map s.holds).map V.bl))->Q (.ref p) H2)->spl [.ref a] H1 Q E
theorem MkS.same{l:Addr}(c:MkS P w K mg base H l each)(s:Same H H'):MkS P w K mg base H' l each:=
 let ⟨v,fd,ps,spl,F,b,h⟩:=c;⟨gt v s,fd,ps,spl,F,b,λ H1 a q Q E s1=>h H1 a q Q E (s.trans s1)⟩
noncomputable def pF(P:Program)(w:World)(K:W.Frag)(mg:Str->Option Value)(base:Heap):Nat->Sp
 | 0=>λ _ _ _ _=>False
 | m+1=>λ vs H Q _=>∃ (a l:Addr) (d:Nat) (q:QT) (each:List OI),vs=[.ref a,.ref l]/\QAt H a q/\okQ d q=true/\6<=d+m/\each.length<=1000/\MkS P w K mg base H l each/\∀ p H',Same H H'->H' p=some (.lst ((each.map q.holds).map V.bl))->Q (.ref p) H'
theorem tK  : ∀ {q:QT},okQ d q=true->d<=6
 | q,h=>Decidable.byContradiction λ n=>by rw [mM (by omega) q] at h;cases h
theorem zbO:(["part", "marks_of"]:List Str).Nodup:=by decide +kernel
theorem zbN:(["mark"]:List Str).Nodup:=by decide +kernel
theorem j9:(["one", "other"]:List Str).Nodup:=by decide +kernel
theorem sc_marked:aA ["asked", "marks_of", "parts"] ["asked", "marks_of"] (av oE):=by walk_at "sc"
theorem zc3{m:Nat}(T:Txt K mg t)(gL:Cal P w K mg base CX0 1 "is_joined" ["asked"] pA)(iI:Cal P w K mg base CX0 (2+m) "marked" ["asked", "marks_of"] (pF P w K mg base m))(F:Fun K "marked" "marked" oE f fd):
  FnOk P w K mg base CX0 (2+m+1) f fd ["asked", "marks_of"] (pF P w K mg base (m+1)):=by
 refine F.ok sc_marked (λ vs H Q E h=>?_) (λ cdv A outer s H vs Q E hr h=>?_)
 ·obtain ⟨a,l,d,q,each,rfl,_⟩:=h;rfl
 ·obtain ⟨a,l,d,q,each,rfl,hq,ho,hd,hz,C,k⟩:=h;obtain ⟨xs,ha,hx,hj⟩:=hq.tup;refine ⟨_,(ak (aS (ef (c9 (gL.pe hr ax (aa (pv 0) ad) (by omega)))) (ao (ay (mU P w K mg base 2 hr ax (aa (pv 0) ad) (pv 1) (by omega))))
   aY)
  (ak (gz (i:=2) sc_marked.nd rfl (Or.inl rfl) (N:=["part", "marks_of"]) (fr:=[none,some 1]) ⟨rfl,rfl,rfl,rfl,rfl,rfl⟩ rfl (kg (dk (gc K) (pv 0) (cL ae) d9))
    (λ C fp s H=>⟨aR (i:=0) zbO rfl (Or.inl rfl),bz,(iI.pe hr ax (aa (pv 0) (aa (pv 1) ad)) (by omega))⟩))
  (ak (aS (aG bM (aN (bL K) (pv 0) ae (λ _ _=>rfl)) aD (aF _)) (ao (ay (bX (N:=["mark"]) (fr:=[none]) ⟨rfl,rfl,rfl,rfl,rfl,rfl⟩ rfl (bY (aN (bK K) (pv 2) ae (λ _ _=>rfl)))
    (λ C fp s H=>⟨aR (i:=0) zbN rfl (Or.inl rfl),bz,(tY (pv 0))⟩))))
   aY)
  (ak (aS (aG bM (aN (bL K) (pv 0) ae (λ _ _=>rfl)) aD (aF _)) (ao (ay (bX (N:=["one", "other"]) (fr:=[none,none]) ⟨rfl,rfl,rfl,rfl,rfl,rfl⟩ rfl (kh K (by rfl) T.i8 (aa (aN (bK K) (pv 2) ae (λ _ _=>rfl)) (aa (aN (bK K) (pv 2) ae (λ _ _=>rfl)) ad)))
    (λ C fp s H=>⟨fG K (n:=2) rfl (cW (aR (i:=0) j9 rfl (Or.inl rfl)) (cW (aR (i:=1) j9 rfl (Or.inl rfl)) fH)),bz,(ke (pv 0) (iw (pv 1)))⟩))))
   aY)
  (ao (ay (bX (N:=["one", "other"]) (fr:=[none,none]) ⟨rfl,rfl,rfl,rfl,rfl,rfl⟩ rfl (kh K (by rfl) T.i8 (aa (aN (bK K) (pv 2) ae (λ _ _=>rfl)) (aa (aN (bK K) (pv 2) ae (λ _ _=>rfl)) ad)))
    (λ C fp s H=>⟨fG K (n:=2) rfl (cW (aR (i:=0) j9 rfl (Or.inl rfl)) (cW (aR (i:=1) j9 rfl (Or.inl rfl)) fH)),bz,(tZ (pv 0) (iw (pv 1)))⟩)))))))),?_⟩
  refine ⟨_,rfl,a,_,_,rfl,ha,_,rfl,?_⟩;rw [hj];cases hp:q.plain with
  | true=>
   obtain ⟨s,rfl⟩:∃ s,q = .sm s:=by
    cases q with
    | sm s=>exact ⟨s,rfl⟩
    | bad _ _=>cases ho
    | _=>cases hp
   obtain ⟨v,fd',ps',spl,G,hb,hC⟩:=C;exact aw ⟨l,fd',ps',spl,rfl,v,G,hb,_,rfl,v,hC H a s _ _ (Same.refl _) hq k⟩
  | false=>
   have j:q.jn=true:=by
    rcases QT.jn_or hp with j | ⟨x,vs,rfl⟩
    ·exact j
    ·cases ho
   obtain ⟨bs,hb,hbl,hb2,_,hbq⟩:=hq.parts j;rw [ha] at hb;cases hb;have hd6:=tK ho;rw [mO hd6 j] at ho;refine ap ⟨_,rfl,1,rfl,a,_,rfl,SqT.of ha,fO _ _,λ pt hpt=>⟨pt,rfl,⟨_,SqT.of af⟩,?_⟩⟩;have ec:bw (V.str q.wd::bs.map V.ref) (some 1) none=bs.map V.ref:=kJ _ _;rw [ec];have s1:Same H (upd H pt (.tup (bs.map V.ref))):=Same.new hpt;have h1:(upd H pt (.tup (bs.map V.ref))) pt=some (.tup (bs.map V.ref)):=af;generalize upd H pt (.tup (bs.map V.ref))=H1 at s1 h1;refine ⟨lW (xs:=bs.map V.ref) (λ i acc H'=>∃ ps:List Addr,acc=ps.map V.ref/\ps.length=i/\Same H1 H'/\∀ (k:Nat) p r,ps[k]?=some p->q.parts[k]?=some r->H' p=some (.lst ((each.map r.holds).map V.bl))) ⟨[],rfl,rfl,Same.refl _,nofun⟩ ?_ ?_ ?_ ?_⟩
   ·rintro i acc H' hi ⟨ps,rfl,rfl,s2,_⟩;exact ⟨SqT.of (s2 _ _ h1),by rw [ag];exact Nat.le_refl _⟩
   ·rw [ag];exact Nat.le_of_lt (a9 (by omega))
   ·rintro i x acc H' hx hlt ⟨ps,rfl,hi',s2,hk⟩;rw [aL] at hx;obtain ⟨b,hb,rfl⟩:=Option.map_eq_some_iff.mp hx;have hi:i < q.parts.length:=by rw [← hbl];exact (al_gs.mp hb).1
    have hpi:=aH hi;have ho:=List.all_eq_true.mp ho _ (List.getElem_mem hi);have:=tK ho;obtain ⟨m',rfl⟩:∃ m',m=m' + 1:=⟨m - 1,by omega⟩
    refine ⟨Wk.set rfl,tT ⟨_,rfl,_,rfl,b,l,d+1,q.parts[i],each,rfl,(hbq i b _ hb hpi).kt (bZ (s1.trans s2)),ho,by omega,hz,C.same (s1.trans s2),λ p H3 s3 h3=>cw hlt ⟨ps++[p],by rw [aJ];rfl,by rw [bc,hi'];rfl,s2.trans s3,λ k p' r e1 e2=>?_⟩⟩⟩;rcases Nat.lt_or_ge k ps.length with hk' | hk'
    ·rw [List.getElem?_append_left hk'] at e1;exact s3 _ _ (hk k p' r e1 e2)
    ·rw [List.getElem?_append_right hk'] at e1;have:k=ps.length:=by have:=(al_gs.mp e1).1;simp at this;omega
     subst this;simp at e1;subst e1;rw [hi',hpi] at e2;cases e2;exact h3
   ·rintro acc H' ⟨ps,rfl,hl,s2,hk⟩ pl hpl;rw [ag] at hl;have s3:Same H (upd H' pl (.lst (ps.map V.ref))):=az (s1.trans s2) hpl;have k3:∀ (k:Nat) p r,ps[k]?=some p->q.parts[k]?=some r->(upd H' pl (.lst (ps.map V.ref))) p=some (.lst ((each.map r.holds).map V.bl)):=λ k p r e1 e2=>Same.new hpl _ _ (hk k p r e1 e2);have hpl:(upd H' pl (.lst (ps.map V.ref))) pl=some (.lst (ps.map V.ref)):=af;have ha3:=s3 _ _ ha;generalize upd H' pl (.lst (ps.map V.ref))=H3 at s3 k3 hpl ha3;cases q with
    | sm s=>cases j
    | bad x vs=>cases j
    | neg q=>
     obtain ⟨p0,rfl⟩:=List.length_eq_one_iff.mp (hl.trans hbl);have ha3:H3 a=some (.tup (.str "not" :: bs.map V.ref)):=ha3;exact ⟨_,rfl,a,_,_,_,rfl,rfl,SqT.of ha3,bW (by decide) rfl,rfl,_,rfl,aw ⟨_,rfl,pl,_,_,_,rfl,rfl,SqL.of hpl,rfl,p0,rfl,⟨_,SqL.of (k3 0 p0 q rfl rfl)⟩,yk (k3 0 p0 q rfl rfl) hz (λ o H' R h=>⟨_,rfl,_,rfl,h⟩) λ H' p s4 h=>k p H' (s3.trans s4) h⟩⟩
    | both q r=>
     obtain ⟨p0,p1,rfl⟩:∃ x y,ps=[x,y]:=match ps,hl.trans hbl with | [x,y],_=>⟨x,y,rfl⟩
     have h0:=k3 0 p0 q rfl rfl;have h1:=k3 1 p1 r rfl rfl;have ha3:H3 a=some (.tup (.str "both" :: bs.map V.ref)):=ha3;refine ⟨_,rfl,a,_,_,_,rfl,rfl,SqT.of ha3,bW (by decide) rfl,rfl,_,rfl,ap ⟨_,rfl,a,_,_,_,rfl,rfl,SqT.of ha3,bW (by decide) rfl,rfl,_,rfl,aw ⟨_,rfl,pl,_,_,_,rfl,rfl,SqL.of hpl,rfl,_,rfl,pl,_,_,_,rfl,rfl,SqL.of hpl,rfl,p0,p1,_,_,rfl,SqL.of h0,SqL.of h1,rA h0 h1 hz (λ o H' R h=>⟨_,rfl,_,rfl,?_⟩) λ H' p s4 h=>k p H' (s3.trans s4) h⟩⟩⟩;rw [show (QT.both q r).holds o=(q.holds o && r.holds o) from rfl] at h;cases e:q.holds o <;> rw [e] at h
     ·exact h
     ·exact ⟨_,rfl,h⟩
    | either q r=>
     obtain ⟨p0,p1,rfl⟩:∃ x y,ps=[x,y]:=match ps,hl.trans hbl with | [x,y],_=>⟨x,y,rfl⟩
     have h0:=k3 0 p0 q rfl rfl;have h1:=k3 1 p1 r rfl rfl;have ha3:H3 a=some (.tup (.str "either" :: bs.map V.ref)):=ha3;refine ⟨_,rfl,a,_,_,_,rfl,rfl,SqT.of ha3,bW (by decide) rfl,rfl,_,rfl,ap ⟨_,rfl,a,_,_,_,rfl,rfl,SqT.of ha3,bW (by decide) rfl,rfl,_,rfl,ap ⟨_,rfl,pl,_,_,_,rfl,rfl,SqL.of hpl,rfl,_,rfl,pl,_,_,_,rfl,rfl,SqL.of hpl,rfl,p0,p1,_,_,rfl,SqL.of h0,SqL.of h1,rA h0 h1 hz (λ o H' R h=>⟨_,rfl,_,rfl,?_⟩) λ H' p s4 h=>k p H' (s3.trans s4) h⟩⟩⟩;rw [show (QT.either q r).holds o=(q.holds o || r.holds o) from rfl] at h;cases e:q.holds o <;> rw [e] at h
     ·exact ⟨_,rfl,h⟩
     ·exact h
open Classical in
theorem v7{f:Key->V}(k:Key):∀ (ps acc:List (Key × V)),(∀ p∈ps,p.2=f p.1)->bd (ps.foldl (λ a p=>bj a p.1 p.2) acc) k=if k∈ps.map Prod.fst then some (f k) else bd acc k
 | [],acc,_=>by rw [if_neg (by simp)];rfl
 | p::ps,acc,h=>by
  rw [List.foldl_cons,v7 k ps _ λ p hp=>h p (bp _ hp),zgN];by_cases e:k∈ps.map Prod.fst
  ·rw [if_pos e,if_pos (by rw [List.map_cons];exact bp _ e)]
  ·rw [if_neg e];by_cases e2:k=p.1
   ·rw [if_pos e2,if_pos (by rw [e2,List.map_cons];exact b9 ..),h p (b9 ..),e2]
   ·rw [if_neg e2,if_neg (by rw [List.map_cons,al_mc];exact λ z=>z.elim e2 e)]
open Classical in
theorem v8{f:Key->V}{ps:List (Key × V)}(h:∀ p∈ps,p.2=f p.1)(k:Key):bd (cq ps) k=if k∈ps.map Prod.fst then some (f k) else none:=v7 k ps [] h
theorem zgO{kvs:List (Key × V)}{k:Key}:(bd kvs k).isSome=true↔k∈kvs.map Prod.fst:=by
 rw [← iF,List.any_eq_true,List.mem_map];exact ⟨λ ⟨x,h1,h2⟩=>⟨x,h1,of_decide_eq_true h2⟩,λ ⟨x,h1,h2⟩=>⟨x,h1,aO h2⟩⟩
theorem ovK(o:OI):ov o=kV (.inl o):=by cases o <;> rfl
theorem yI(xs:List OI):∃ each:List OI,(cq (xs.map λ o=>((.inl o:Key),V.bl true))).map (λ kv=>kV kv.1)=each.map ov/\(∀ o∈xs,o∈each)/\each.length<=xs.length:=by
 have hv:=v8 (f:=λ _=>.bl true) (ps:=xs.map λ o=>((.inl o:Key),V.bl true)) λ p hp=>by
  obtain ⟨o,_,rfl⟩:=List.mem_map.mp hp;rfl
 have hm:∀ k:Key,k∈(cq (xs.map λ o=>((.inl o:Key),V.bl true))).map Prod.fst↔∃ o∈xs,Sum.inl o=k:=λ k=>by
  rw [← zgO,hv k];rw [show (xs.map λ o=>((.inl o:Key),V.bl true)).map Prod.fst=xs.map Sum.inl by rw [List.map_map];rfl];by_cases e:k∈xs.map Sum.inl
  ·rw [if_pos e];exact ⟨λ _=>List.mem_map.mp e,λ _=>rfl⟩
  ·rw [if_neg e];exact ⟨nofun,λ h=>absurd (List.mem_map.mpr h) e⟩
 have hl:=jg (xs.map λ o=>((.inl o:Key),V.bl true));rw [ag] at hl;generalize cq (xs.map λ o=>((.inl o:Key),V.bl true))=kvs at hm hl;refine ⟨kvs.map λ kv=>kv.1.elim id λ _=>none,?_,λ o ho=>?_,by rw [ag];exact hl⟩
 ·rw [List.map_map];refine List.map_congr_left λ kv hk=>?_;obtain ⟨o,_,e⟩:=(hm kv.1).mp (List.mem_map_of_mem hk);show kV kv.1=ov (kv.1.elim id λ _=>none);rw [← e];exact (ovK o).symm
 ·obtain ⟨kv,h1,h2⟩:=List.mem_map.mp ((hm (.inl o)).mpr ⟨o,ho,rfl⟩);exact List.mem_map.mpr ⟨kv,h1,by rw [h2];rfl⟩
theorem zgP{f:OI->V}{o:OI}(h:o∈each):bd (cq ((each.map (Sum.inl:OI->Key)).zip (each.map f))) (.inl o)=some (f o):=by
 rw [List.zip_map',v8 (f:=λ k:Key=>k.elim f λ _=>.non) (λ p hp=>by obtain ⟨o,_,rfl⟩:=List.mem_map.mp hp;rfl),if_pos]
 ·rfl
 ·rw [List.map_map];exact List.mem_map.mpr ⟨o,h,rfl⟩
noncomputable abbrev lqV:Str:=sJ "marked_values"
noncomputable abbrev lpV:Pos:=sI ky
noncomputable def vo(t:Ad):Sp:=λ vs H Q _=>∃ (a p:Addr) (q:QT) (xs:List OI),vs=[.ref a,.ref p]/\QAt H a q/\okQ 1 q=true/\H p=some (.lst (xs.map ov))/\xs.length<=1000/\cG H t.p_marked_values lpV lqV/\
 ∀ r H',eK t.p_marked_values H H'->cG H' t.p_marked_values lpV lqV->H' r=some (.lst ((xs.map q.holds).map V.bl))->Q (.ref r) H'
theorem zbP:(["value"]:List Str).Nodup:=by decide +kernel
theorem zbQ:(["value", "found"]:List Str).Nodup:=by decide +kernel
theorem sc_marked_values:aA ["question", "values", "each", "marks", "found"] ["question", "values"] (av ky):=by walk_at "sc"
theorem zbK:(["value", "simple"]:List Str).Nodup:=by decide +kernel
theorem zc4(T:Txt K mg t)(B:fe base mg)(iI:Cal P w K mg base CX0 8 "marked" ["asked", "marks_of"] (pF P w K mg base 6))(kR:Cal P w K mg base CX0 1 "answers" ["simple", "value"] uS)(F:FunC K "marked_values" "marked_values" ky f fd t.gp t.p_marked_values):
  FnOk P w K mg base CX0 9 f fd ["question", "values"] (vo t):=by
 refine F.ok sc_marked_values (λ vs H Q E h=>?_) (λ A outer s H vs Q E hr h=>?_)
 ·obtain ⟨a,l,q,xs,rfl,_⟩:=h;rfl
 ·obtain ⟨a,p,q,xs,rfl,hq,hok,hp,hz,hT,k⟩:=h;have hu:=fu hr;refine ⟨_,(ak (aE (i:=2) sc_marked_values.nd rfl (Or.inr rfl) (iu (qY rfl) (by rfl) T.ka PyProof.Rows.Boot.«list» (aa (iu (xY rfl) (by rfl) T.tD PyProof.Rows.Boot.«dict» (aa (bX (N:=["value"]) (fr:=[none]) ⟨rfl,rfl,rfl,rfl,rfl,rfl⟩ rfl (bY (pv 1))
    (λ C fp s H=>⟨aR (i:=0) zbP rfl (Or.inl rfl),bz,(cp (aa (pv 0) (aa eV ad)))⟩)) ad)) ad)))
  (ak (aE (i:=3) sc_marked_values.nd rfl (Or.inl rfl) (iI.peZ (i:=2) (y := "each") hr ax zgu (aa (pv 0) (aa (tV rfl rfl F.hd B) ad)) rfl rfl rfl rfl))
  (ak (aE (i:=4) sc_marked_values.nd rfl (Or.inr rfl) (zdU K rfl (by rfl) T.tD (by rfl) T.i8 (aa (pv 2) (aa (pv 3) ad))))
  (ao (ay (bX (N:=["value", "found"]) (fr:=[none,some 4]) ⟨rfl,rfl,rfl,rfl,rfl,rfl⟩ rfl (bY (pv 1))
    (λ C fp s H=>⟨aR (i:=0) zbQ rfl (Or.inl rfl),bz,(tR hu (pv 1) (pv 0) (λ _ _=>rfl))⟩))))))),?_⟩
  refine ⟨_,rfl,p,rfl,⟨_,SqL.of hp⟩,⟨cB (xs:=xs.map ov) (λ i acc H'=>∃ as:List Addr,acc=as.map V.ref/\as.length=i/\Same H H'/\∀ (j:Nat) b o,as[j]?=some b->xs[j]?=some o->H' b=some (.tup [ov o,.bl true])) ⟨[],rfl,rfl,Same.refl _,nofun⟩ ?_ ?_ ?_ ?_⟩⟩
  ·rintro i acc H' hi ⟨as,rfl,rfl,s1,_⟩;exact ⟨SqL.of (s1 _ _ hp),by rw [ag];exact Nat.le_refl _⟩
  ·rw [ag];exact Nat.le_of_lt (a9 hz)
  ·rintro i x acc H' hx hlt ⟨as,rfl,hi',s1,hk⟩;rw [ag] at hlt;rw [aL,aH hlt] at hx;cases hx;refine ⟨Wk.set rfl,tT ⟨_,rfl,by show 2<=sizeLine;decide,λ b hb=>cw (by rw [ag];exact hlt) ⟨as++[b],by rw [aJ];rfl,by rw [bc,hi'];rfl,az s1 hb,λ j b' o e1 e2=>?_⟩⟩⟩;rcases Nat.lt_or_ge j as.length with hj | hj
   ·rw [List.getElem?_append_left hj] at e1;exact Same.new hb _ _ (hk j b' o e1 e2)
   ·rw [List.getElem?_append_right hj] at e1;have:j=as.length:=by have:=(al_gs.mp e1).1;simp at this;omega
    subst this;simp at e1;subst e1;rw [hi',aH hlt] at e2;cases e2;exact af
  ·rintro acc H' ⟨as,rfl,hl,s1,hk⟩ p1 hp1;rw [ag] at hl;have s2:Same H (upd H' p1 (.lst (as.map V.ref))):=az s1 hp1;have hk2:∀ (j:Nat) b o,as[j]?=some b->xs[j]?=some o->(upd H' p1 (.lst (as.map V.ref))) b=some (.tup [ov o,.bl true]):=λ j b o e1 e2=>Same.new hp1 _ _ (hk j b o e1 e2);have hp1:(upd H' p1 (.lst (as.map V.ref))) p1=some (.lst (as.map V.ref)):=af;generalize upd H' p1 (.lst (as.map V.ref))=H2 at s2 hk2 hp1;refine ⟨p1,as,xs.map λ o=>(.inl o,.bl true),rfl,hp1,by rw [ag,hl],λ i b pr e1 e2=>?_,λ d hd=>⟨d,_,rfl,af,λ l hl3=>?_⟩⟩
   ·rw [aL] at e2;obtain ⟨o,e3,rfl⟩:=Option.map_eq_some_iff.mp e2;rw [hk2 i b o e1 e3,ovK]
   obtain ⟨each,ee,hin,hlen⟩:=yI xs;rw [ee];have s4:Same H (upd (upd H2 d (.dK (cq (xs.map λ o=>(.inl o,.bl true))))) l (.lst (each.map ov))):=az (az s2 hd) hl3;have h4:(upd (upd H2 d (.dK (cq (xs.map λ o=>(.inl o,.bl true))))) l (.lst (each.map ov))) l=some (.lst (each.map ov)):=af;generalize upd (upd H2 d (.dK (cq (xs.map λ o=>(.inl o,.bl true))))) l (.lst (each.map ov))=H4 at s4 h4;have hT4:=iC hT s4;refine ⟨_,rfl,hT4,λ H5 lm sb hl hT5 LH=>⟨_,rfl,λ oc u hc ed ru=>?_⟩⟩;obtain ⟨ps0,eT,_⟩:=id hT4;have k5:Kt H4 H5:=o9 sb eT;obtain ⟨pm,c',ctv,eL,cd⟩:=LH;have h5:H5 l=some (.lst (each.map ov)):=k5.lst h4;generalize s.heap.objs.size+1+1=cc at hc eL ⊢;have s6:Same H5 (upd H5 cc (FrO oc cc)):=Same.new hc;have h6c:(upd H5 cc (FrO oc cc)) cc=some (FrO oc cc):=af;have k6:Kt H4 (upd H5 cc (FrO oc cc)):=λ b o e=>(k5 b o e).imp (λ e=>s6 b o e) id;have FL:=r6 (CX:=CX0) (P:=P) (w:=w) (K:=K) (mg:=mg) (base:=base) eL "simple" 1
    (λ v z H Q E=>∃ (a l:Addr) (s:Sm) (each:List OI),v = .ref a/\z = .ref l/\SmAt H a s/\H l=some (.lst (each.map ov))/\each.length<=1000/\∀ p H2,Same H H2->H2 p=some (.lst ((each.map s.holds).map V.bl))->Q (.ref p) H2)
    ?S zeM (λ A outer s H v z Q E hr h=>?B) (λ us hl=>match us,hl with | [_],_=>rfl)
   case S=>exact ⟨rfl,rfl,rfl,by decide,rfl,by decide,.inr ⟨rfl,λ _ _=>rfl⟩⟩
   case B=>
    refine ⟨_,bX (N:=["value", "simple"]) (fr:=[none,some 0]) ⟨rfl,rfl,rfl,rfl,rfl,rfl⟩ rfl (bY (pv 1)) (λ C fp s H=>⟨aR (i:=0) zbK rfl (Or.inl rfl),bz,kR.pe hr ax (aa (pv 1) (aa (pv 0) ad))⟩),?_⟩;obtain ⟨a,l,q,each,rfl,rfl,ha,hl,hz,k⟩:=h;refine ⟨_,rfl,l,rfl,⟨_,SqL.of hl⟩,⟨cB (K:=K) (xs:=each.map ov) (λ i acc H'=>Same H H'/\acc=((each.take i).map q.holds).map V.bl) ⟨Same.refl _,rfl⟩ ?_ ?_ ?_ ?_⟩⟩
    ·rintro i acc H' hi ⟨s4,rfl⟩;exact ⟨SqL.of (s4 _ _ hl),by simp;omega⟩
    ·rw [ag];exact Nat.le_of_lt (a9 hz)
    ·rintro i x acc H' hx hlt ⟨s4,rfl⟩;have hi:i < each.length:=by rw [ag] at hlt;exact hlt
     rw [aL,aH hi] at hx;cases hx;refine ⟨Wk.set rfl,tT ⟨_,rfl,_,rfl,a,q,each[i],rfl,ha.kt (bZ s4),cw hlt ⟨s4,?_⟩⟩⟩;rw [List.take_succ,aH hi,aJ,aJ];rfl
    ·rintro acc H' ⟨s4,rfl⟩ p hp;refine k p _ (az s4 hp) ?_;rw [af,ag,aX]
   refine ⟨a,lm,1,q,each,rfl,(hq.kt (bZ s4)).kt k6,hok,by decide,by omega,⟨.inr ⟨_,_,_,_,s6 _ _ eL⟩,_,_,_,FL.1,FL.2,λ H7 a' q' Q' E' s7 hq' j=>?_⟩,λ r H7 s7 h7=>?_⟩
   ·have h7c:=s7 _ _ h6c;refine ⟨.ref a',.ref l,oc,u,rfl,⟨s7 _ _ (s6 _ _ eL),CdH.same (CdH.same cd s6) s7⟩,h7c,ed,ru,a',l,q',each,rfl,rfl,hq'.kt (gY h7c),(gY h7c).lst (s7 _ _ (s6 _ _ h5)),by omega,λ p8 H8 s8 h8 n8=>j p8 _ (o5 s8 h7c) ?_⟩;rw [ai λ z=>?_]
    ·exact h8
    rw [z,n8] at h8;cases h8
   have h7l:H7 l=some (.lst (each.map ov)):=s7 _ _ (s6 _ _ h5);have h7c:=s7 _ _ h6c;have s8:=uJ s7 hc;have hT8:=iC hT5 s8;have h8r:(del H7 cc) r=some (.lst ((each.map q.holds).map V.bl)):=(gY h7c).lst h7;have h8l:(del H7 cc) l=some (.lst (each.map ov)):=(gY h7c).lst h7l;have h8p:(del H7 cc) p=some (.lst (xs.map ov)):=(gY h7c).lst (s7 _ _ (s6 _ _ (k5.lst (s4 _ _ hp))));have sb8:eK t.p_marked_values H (del H7 cc):=λ b o nb e=>s8 b o (sb b o nb (s4 b o e));show eh _ _ _ _ _;generalize del H7 cc=H8 at s8 hT8 h8r h8l h8p sb8;refine ⟨_,rfl,_,rfl,l,r,each.map Sum.inl,(each.map q.holds).map V.bl,rfl,?_,SqL.of h8r,by simp,λ d hd=>⟨_,rfl,p,rfl,⟨_,SqL.of (Same.new hd _ _ h8p)⟩,?_⟩⟩
   ·rw [List.map_map];exact SqL.of (h8l.trans (by rw [List.map_congr_left λ o _=>ovK o];rfl))
   have s9:Same H8 (upd H8 d (.dK (cq ((each.map Sum.inl).zip ((each.map q.holds).map V.bl))))):=Same.new hd;have h9:(upd H8 d (.dK (cq ((each.map Sum.inl).zip ((each.map q.holds).map V.bl))))) d=some (.dK (cq ((each.map Sum.inl).zip ((each.map q.holds).map V.bl)))):=af;generalize upd H8 d (.dK (cq ((each.map Sum.inl).zip ((each.map q.holds).map V.bl))))=H9 at s9 h9;rw [List.map_map] at h9;refine ⟨cB (K:=K) (xs:=xs.map ov) (λ i acc H'=>Same H9 H'/\acc=((xs.take i).map q.holds).map V.bl) ⟨Same.refl _,rfl⟩ ?_ ?_ ?_ ?_⟩
   ·rintro i acc H' hi ⟨s4,rfl⟩;exact ⟨SqL.of (s4 _ _ (s9 _ _ h8p)),by simp;omega⟩
   ·rw [ag];exact Nat.le_of_lt (a9 hz)
   ·rintro i x acc H' hx hlt ⟨s4,rfl⟩;have hi:i < xs.length:=by rw [ag] at hlt;exact hlt
    rw [aL,aH hi] at hx;cases hx;refine ⟨Wk.set rfl,tT ⟨_,rfl,_,rfl,d,.bl (q.holds xs[i]),rfl,?_,cw hlt ⟨s4,?_⟩⟩⟩
    ·have:=DGet.k (k:=.inl xs[i]) (s4 _ _ h9);rw [zgP (f:=V.bl ∘ q.holds) (hin _ (List.getElem_mem hi)),← ovK] at this;exact this
    rw [List.take_succ,aH hi,aJ,aJ];rfl
   ·rintro acc H' ⟨s4,rfl⟩ r' hr';have s5:=az (o:=.lst (((xs.take (xs.map ov).length).map q.holds).map V.bl)) (s9.trans s4) hr';refine k r' _ (λ b o nb e=>s5 b o (sb8 b o nb e)) (iC hT8 s5) ?_;rw [af,ag,aX]
noncomputable def cJ(f:OI->Bool):Nat->List OI->List (Nat × OI)
 | _,[]=>[]
 | b,x::r=>if f x=true then (b,x)::cJ f (b+1) r else cJ f (b+1) r
theorem mx(f:OI->Bool):∀ (b:Nat) (xs ys:List OI),cJ f b (xs++ys)=cJ f b xs++cJ f (b+xs.length) ys
 | b,[],ys=>rfl
 | b,x::r,ys=>by
  rw [List.cons_append,cJ,cJ,mx f (b+1) r ys,List.length_cons,show b+1+r.length=b+(r.length+1) by omega];cases f x <;> rfl
theorem hW(f:OI->Bool):∀ (b:Nat) (xs:List OI),(cJ f b xs).length<=xs.length
 | _,[]=>Nat.le_refl _
 | b,x::r=>by
  have:=hW f (b+1) r;rw [cJ,List.length_cons];cases f x
  ·exact Nat.le_succ_of_le this
  ·exact Nat.succ_le_succ this
theorem zt(f:OI->Bool)(b:Nat)(xs:List OI)(x:OI):cJ f b (xs++[x])=cJ f b xs++if f x=true then [(b+xs.length,x)] else []:=by
 rw [mx];rfl
noncomputable def AnsAt(H:Hp):List Addr->List (Nat × OI)->Prop
 | [],[]=>True
 | a::as,p::ps=>H a=some (.tup [.int p.1,ov p.2])/\AnsAt H as ps
 | _,_=>False
theorem AnsAt.len{H:Hp}:∀ {as:List Addr} {ps:List (Nat × OI)},AnsAt H as ps->as.length=ps.length
 | [],[],_=>rfl
 | _::as,_::ps,h=>congrArg (· + 1) (AnsAt.len h.2)
theorem AnsAt.kt{H H':Hp}(k:∀ b xs,H b=some (.tup xs)->H' b=some (.tup xs)):∀ {as:List Addr} {ps:List (Nat × OI)},AnsAt H as ps->AnsAt H' as ps
 | [],[],_=>trivial
 | _::as,_::ps,h=>⟨k _ _ h.1,AnsAt.kt k h.2⟩
theorem AnsAt.app{H:Hp}{bs:List Addr}{qs:List (Nat × OI)}(g:AnsAt H bs qs):∀ {as:List Addr} {ps:List (Nat × OI)},AnsAt H as ps->AnsAt H (as++bs) (ps++qs)
 | [],[],_=>g
 | _::as,_::ps,h=>⟨h.1,AnsAt.app g h.2⟩
theorem AnsAt.get{H:Hp}:∀ {as:List Addr} {ps:List (Nat × OI)} {i:Nat} {a:Addr},AnsAt H as ps->as[i]?=some a->∃ p,ps[i]?=some p/\H a=some (.tup [.int p.1,ov p.2])
 | _::as,p::ps,0,_,h,e=>by cases e;exact ⟨p,rfl,h.1⟩
 | _::as,_::ps,i+1,_,h,e=>AnsAt.get (i:=i) h.2 e
theorem pS{p':Addr}{ps':Array Value}(x:cG H p pos q)(s:eK p' H H')(e:H p'=some (.tbl ps'))(n:p≠p'):cG H' p pos q:=by
 obtain ⟨ps,e1,t1,h⟩:=x;refine ⟨ps,s _ _ n e1,t1,h.imp id λ ⟨c,e2,h⟩=>⟨c,e2,?_⟩⟩;obtain ⟨oc,vs,t,e3,r⟩:=h;exact ⟨oc,vs,t,s _ _ (λ z=>by rw [z,e] at e3;cases e3) e3,r⟩
theorem vQ{l:Addr}{xs:List V}(x:cG H p pos q)(e:H l=some (.lst xs)):cG (upd H l o) p pos q:=by
 obtain ⟨ps,e1,t1,h⟩:=x;refine ⟨ps,by rw [ai λ z=>by rw [z,e] at e1;cases e1];exact e1,t1,h.imp id λ ⟨c,e2,h⟩=>⟨c,e2,?_⟩⟩;obtain ⟨oc,vs,t,e3,r⟩:=h;exact ⟨oc,vs,t,by rw [ai λ z=>by rw [z,e] at e3;cases e3];exact e3,r⟩
noncomputable def Tbs(t:Ad)(H:Hp):Prop:=cG H t.p_check_question_of lpC lqC/\cG H t.p_marked_values lpV lqV
noncomputable def Sb2(t:Ad)(H H':Hp):Prop:=∀ b o,b≠t.p_check_question_of->b≠t.p_marked_values->H b=some o->H' b=some o
theorem Tbs.same(h:Tbs t H)(s:Same H H'):Tbs t H':=⟨iC h.1 s,iC h.2 s⟩
theorem Sb2.same(h:Sb2 t H H')(s:Same H' H2):Sb2 t H H2:=λ b o n1 n2 e=>s b o (h b o n1 n2 e)
theorem Sb2.trans(h:Sb2 t H H')(s:Sb2 t H' H2):Sb2 t H H2:=λ b o n1 n2 e=>s b o n1 n2 (h b o n1 n2 e)
theorem Sb2.kt(h:Sb2 t H H')(T:Tbs t H):Kt H H':=λ b o e=>by
 obtain ⟨⟨p1,e1,_⟩,p2,e2,_⟩:=T;by_cases n1:b=t.p_check_question_of
 ·subst n1;rw [e1] at e;cases e;exact .inr (.inl ⟨_,rfl⟩)
 by_cases n2:b=t.p_marked_values
 ·subst n2;rw [e2] at e;cases e;exact .inr (.inl ⟨_,rfl⟩)
 exact .inl (h b o n1 n2 e)
theorem Kt.ins(k:Kt H H'){fs:List (Str × V)}(e:H a=some (.ins C dx fs)):H' a=some (.ins C dx fs):=(k a _ e).elim id λ z=>by rcases z with ⟨_,z⟩ | ⟨_,_,z⟩ <;> cases z
noncomputable def kz(t:Ad):Sp:=λ vs H Q E=>∃ (c a:Addr) (q:QT) (xs:List OI),vs=[.ref c,.ref a]/\ColAt t.bv H c xs/\okC xs=true/\QAt H a q/\Tbs t H/\
 (okQ 1 q=true->∀ l as H',Sb2 t H H'->Tbs t H'->H' l=some (.lst (as.map V.ref))->AnsAt H' as (cJ q.holds 0 xs)->Q (.ref l) H')/\(okQ 1 q=false->∀ H',Sb2 t H H'->Tbs t H'->E (.ref t.bx) none H')
theorem tf:(["place", "mark", "begin", "block"]:List Str).Nodup:=by decide +kernel
theorem sc_Column_answering:aA ["self", "question", "found", "begin", "kind", "block", "marks"] ["self", "question"] (av m8):=by walk_at "sc"
theorem zco(T:Txt K mg t)(ne:t.p_check_question_of≠t.p_marked_values)(kY:Cal P w K mg base (CXr P w) 13 "check_question" ["question"] (u7 t))(ly:Cal P w K mg base CX0 9 "unpacked" ["bits"] vC)(lj:Cal P w K mg base CX0 9 "marked_values" ["question", "values"] (vo t))(F:Fun K "answering" "Column.answering" m8 f fd):FnOk P w K mg base (CXr P w) 14 f fd ["self", "question"] (kz t):=by
 refine F.okX sc_Column_answering (λ vs H Q E h=>?_) (λ cdv A outer s H vs Q E hr h=>?_)
 ·obtain ⟨c,a,q,xs,rfl,_⟩:=h;rfl
 ·obtain ⟨c,a,q,xs,rfl,hC,ok,hq,hT,k1,k2⟩:=h;have hl:=ip ok;have hcl:=yj xs;have hu:=fu hr;refine ⟨_,(ak (bV (kY.pe hr cV (aa (pv 1) ad)))
  (ak (aE (i:=2) sc_Column_answering.nd rfl (Or.inl rfl) (bS ad))
  (ak (aE (i:=3) sc_Column_answering.nd rfl (Or.inr rfl) ae)
  (ak (PS.nox (fK PassesOwn.never rfl (bY (ly.pe hr ax (aa (eW K (pv 0) rfl) ad))) (fG K (n:=2) rfl (cW (aR (i:=4) sc_Column_answering.nd rfl (Or.inl rfl)) (cW (aR (i:=5) sc_Column_answering.nd rfl (Or.inr rfl)) fH)))
   (ak (aE (i:=6) sc_Column_answering.nd rfl (Or.inl rfl) (lj.pe hr ax (aa (pv 1) (aa (pv 5) ad))))
  (ak (bV (cD K PySem.F.plainAttrs_list PySem.F.slot_list_extend PySem.F.type_list_extend sV (pv 2) (aa (bX (N:=["place", "mark", "begin", "block"]) (fr:=[none,none,some 3,some 5]) ⟨rfl,rfl,rfl,rfl,rfl,rfl⟩ rfl (zd2 K (by rfl) T.zb0 (aa (pv 6) ad))
    (λ C fp s H=>⟨fG K (n:=2) rfl (cW (aR (i:=0) tf rfl (Or.inl rfl)) (cW (aR (i:=1) tf rfl (Or.inl rfl)) fH)),(jc (c9 (pv 1))),(cp (aa (aj a8 (pv 2) (pv 0)) (aa (aN (bK K) (pv 3) (pv 0) (λ _ _=>rfl)) ad)))⟩)) ad)))
  (ao (ua (i:=3) sc_Column_answering.nd rfl (Or.inr rfl) (aP (cr K) (by rfl) T.bE PyProof.Rows.Boot.«len» (aa (pv 5) ad)) sy))))))
  (ao (ay (pv 2))))))),?_⟩
  refine ⟨_,rfl,a,q,rfl,hq,hT.1,λ z H1 sb hT1=>?_,λ z H1 sb hT1=>k2 z H1 (λ b o n1 _ e=>sb b o n1 e) ⟨hT1,?_⟩⟩
  ·obtain ⟨⟨ps0,eT,_⟩,_⟩:=id hT;have hT1:Tbs t H1:=⟨hT1,pS hT.2 sb eT ne.symm⟩
   have kH1:Kt H H1:=o9 sb eT;have sb:Sb2 t H H1:=λ b o n1 _ e=>sb b o n1 e;obtain ⟨dx,hC⟩:=hC;have hC:=kH1.ins hC;have hq:=hq.kt kH1;clear kH1 eT hT;refine ⟨aB rfl,λ l hln=>?_⟩;have s1:Same H1 (upd H1 l (.lst [])):=Same.new hln;have h1:(upd H1 l (.lst [])) l=some (.lst []):=af;show dC _ _ _ (upd H1 l (.lst [])) _;generalize upd H1 l (.lst [])=H2 at s1 h1;have hT2:=hT1.same s1;have hC:=s1 _ _ hC;refine ⟨_,rfl,c,_,dx,_,_,rfl,hC,T.eA,T.qp,rfl,fk xs,?_,rq ok,by rw [rp];exact zgw ok,λ lt H3 s3 hlt F3=>?_⟩
   ·rw [rp];rfl
   obtain ⟨as,a1,a2,a3,a4⟩:=F3;have hfl:=yi xs;have hok:=rq ok;generalize fk xs=bl at hcl hfl hok a2 a3;have hT3:=hT2.same s3;have h3:=s3 _ _ h1;have nl1:∀ a∈as,a.1≠l/\a.2≠l:=λ a ha=>by
    obtain ⟨n1,n2⟩:=a4 a ha;exact ⟨λ z=>(by rw [z,h1] at n1;cases n1),λ z=>(by rw [z,h1] at n2;cases n2)⟩
   have nlt:lt≠l:=λ z=>by rw [z,h1] at hlt;cases hlt
   have nlp:l≠t.p_marked_values:=λ z=>by obtain ⟨_,_,e,_⟩:=hT3;rw [← z,h3] at e;cases e
   have nlq:l≠t.p_check_question_of:=λ z=>by obtain ⟨⟨_,e,_⟩,_⟩:=hT3;rw [← z,h3] at e;cases e
   refine ⟨lt,rfl,⟨_,SqL.of a1⟩,⟨iU (K:=K) (a:=lt) (xs:=as.map λ a=>V.ref a.1) (λ k σ H'=>∃ (v4 v5 v6:Option V) (as':List Addr),σ=[some (.ref c),some (.ref a),some (.ref l),some (.int (((bl.take k).map (·.2)).flatten.length:Nat)),v4,v5,v6]/\(∀ b o,b≠l->b≠t.p_marked_values->H3 b=some o->H' b=some o)/\Tbs t H'/\H' l=some (.lst (as'.map V.ref))/\AnsAt H' as' (cJ q.holds 0 ((bl.take k).map (·.2)).flatten))
    ⟨none,none,none,[],rfl,λ b o _ _ e=>e,hT3,h3,trivial⟩ ?_ ?_ ?_⟩⟩
   ·rintro k σ H' hk ⟨_,_,_,_,_,h,_⟩;exact SqL.of (h _ _ nlt (λ z=>by obtain ⟨_,_,e,_⟩:=hT3;rw [← z,a1] at e;cases e) a1)
   ·rintro k y σ H4 hy ⟨v4,v5,v6,as',rfl,k4,hT4,g4,ans⟩;have hka:k < as.length:=by
     have:=(al_gs.mp hy).1
     rwa [ag] at this
    rw [aL,aH hka] at hy;cases hy;have ec:bl[k]?=some (bl[k]'(by omega)):=aH (by omega);obtain ⟨z1,z2⟩:=a3 k as[k] _ (aH hka) ec;obtain ⟨n1,n2⟩:=nl1 _ (List.getElem_mem hka);obtain ⟨_,_,e3,_⟩:=id hT3;have z1:=k4 _ _ n1 (λ z=>by rw [z,e3] at z1;cases z1) z1;have z2:=k4 _ _ n2 (λ z=>by rw [z,e3] at z2;cases z2) z2;have hok:=(eE (hok _ (List.getElem_mem (by omega:k < bl.length))).1).2;have tk:bl.take (k+1)=bl.take k++[bl[k]'(by omega)]:=by rw [List.take_add_one,ec];rfl
    have hfl4:(((bl.take (k+1)).map (·.2)).flatten).length<=xs.length:=by
     conv=>rhs;rw [← hfl,← List.take_append_drop (k+1) bl,aJ,List.flatten_append,bc]
     exact Nat.le_add_right _ _
    have tk2:((bl.take (k+1)).map (·.2)).flatten=((bl.take k).map (·.2)).flatten++(bl[k]'(by omega)).2:=by rw [tk,aJ,List.flatten_append];simp
    rw [tk2,bc] at hfl4;rw [tk2];generalize ((bl.take k).map (·.2)).flatten=fl at ans hfl4 ⊢;generalize bl[k].2=blk at z2 hok hfl4 ⊢;have hq4:QAt H4 a q:=hq.kt λ b o e=>by
     by_cases n:b=t.p_marked_values
     ·subst n;have:=s3 _ _ (s1 _ _ e);rw [e3] at this;cases this;exact .inr (.inl ⟨_,rfl⟩)
     ·exact .inl (k4 b o (aK e hln) n (s3 _ _ (s1 _ _ e)))
    refine ⟨as[k].1,_,rfl,SqT.of z1,rfl,_,_,rfl,_,_,rfl,rfl,?_⟩;refine ⟨_,rfl,_,rfl,a,as[k].2,q,blk,rfl,hq4,z,z2,by omega,hT4.2,λ r H5 sb5 hT5 h5=>?_⟩;have z5:H5 as[k].2=some (.lst (blk.map ov)):=sb5 _ _ (λ z=>by obtain ⟨_,_,e,_⟩:=hT4;rw [← z,z2] at e;cases e) z2;have g5:H5 l=some (.lst (as'.map V.ref)):=sb5 _ _ nlp g4;have hT5:Tbs t H5:=by
     obtain ⟨_,_,e,_⟩:=id hT4;exact ⟨pS hT4.1 sb5 e ne,hT5⟩
    have ans5:AnsAt H5 as' (cJ q.holds 0 fl):=ans.kt λ b ys e=>sb5 b _ (λ z=>by obtain ⟨_,_,e4,_⟩:=id hT4;rw [← z,e] at e4;cases e4) e;have k5:∀ b o,b≠l->b≠t.p_marked_values->H3 b=some o->H5 b=some o:=λ b o n1 n2 e=>sb5 b o n2 (k4 b o n1 n2 e);clear sb5 ans g4 hT4 k4 z2 hq4;have hnf:=hW q.holds 0 fl;have hnl:=ans5.len;refine ⟨_,rfl,.inl ⟨rfl,_,SqL.of g5⟩,_,rfl,r,_,rfl,SqL.of h5,yo (n:=blk.length) (λ i acc H'=>∃ bs:List Addr,acc=bs.map V.ref/\Same H5 H'/\AnsAt H' bs (cJ q.holds fl.length (blk.take i))) ⟨[],rfl,Same.refl _,trivial⟩ ?_ (Nat.le_of_lt (a9 (by omega))) ?_ ?_⟩
    ·rintro i acc H6 hi ⟨bs,rfl,s6,ab⟩;have:=hW q.holds fl.length (blk.take i);rw [be] at this;have l2:=ab.len;refine ⟨by rw [ag];omega,λ hi=>⟨_,_,SqL.of (s6 _ _ h5),by rw [aL,aL,aH hi];rfl⟩,λ hi=>⟨_,SqL.of (s6 _ _ h5),by rw [ag,ag];exact hi⟩⟩
    ·rintro i x acc H6 H7 hi ⟨bs,rfl,s6,ab⟩ ⟨T',hT',rfl,hy⟩;obtain ⟨y,ey,rfl⟩:=hy _ (SqL.of (s6 _ _ h5));rw [aL,aL,aH hi] at ey;cases ey;refine ⟨T',_,rfl,SqT.of af,rfl,_,_,rfl,_,_,rfl,rfl,(Wk.set rfl).trans (Wk.set rfl),_,rfl,?_⟩;refine ⟨_,rfl,?_⟩;have tki:blk.take (i+1)=blk.take i++[blk[i]]:=by rw [List.take_add_one,aH hi];rfl
     have ht:=zt q.holds fl.length (blk.take i) blk[i];rw [← tki,be,Nat.min_eq_left (Nat.le_of_lt hi)] at ht;have s7:=az (o:=.tup [.int i,.bl (q.holds blk[i])]) s6 hT';have ab7:=ab.kt λ b ys e=>Same.new (o:=.tup [.int i,.bl (q.holds blk[i])]) hT' b _ e;generalize upd H6 T' (.tup [.int i,.bl (q.holds blk[i])])=H7 at s7 ab7 ⊢;cases e:q.holds blk[i] with
     | false=>
      refine ap (cw hi ⟨bs,rfl,s7,?_⟩);rw [ht,e];simpa using ab7
     | true=>
      refine aw ⟨_,rfl,_,rfl,_,_,rfl,rfl,_,rfl,_,rfl,as[k].2,_,_,_,rfl,rfl,SqL.of (s7 _ _ z5),dG (by rw [aL,aH hi];rfl),by show 2<=sizeLine;decide,λ b hb=>cw hi ⟨bs++[b],by rw [aJ];rfl,az s7 hb,?_⟩⟩;rw [ht,e];refine AnsAt.app ?_ (ab7.kt λ b' ys e=>Same.new hb b' _ e);exact ⟨af,trivial⟩
    ·rintro acc H6 ⟨bs,rfl,s6,ab⟩ p hp;rw [aX] at ab;have hbl:=hW q.holds fl.length blk;have hbs:=ab.len;have s7:=az (o:=.lst (bs.map V.ref)) s6 hp;have ab7:=ab.kt λ b ys e=>Same.new (o:=.lst (bs.map V.ref)) hp b _ e;have h7:(upd H6 p (.lst (bs.map V.ref))) p=some (.lst (bs.map V.ref)):=af;generalize upd H6 p (.lst (bs.map V.ref))=H7 at s7 ab7 h7 ⊢;have g7:=s7 _ _ g5;have n2:as[k].2≠l:=n2;refine ⟨l,p,_,_,rfl,rfl,g7,h7,?_,_,rfl,_,rfl,as[k].2,blk.map ov,rfl,.inl (SqL.of ?_),_,_,rfl,rfl,some (.str (kindsS.getD bl[k].1 "")),some (.ref as[k].2),some (.ref r),as' ++ bs,?_,λ b o n1 n2 e=>?_,⟨vQ (hT5.same s7).1 g7,vQ (hT5.same s7).2 g7⟩,?_,?_⟩
     ·rw [ag,ag];exact Nat.le_of_lt (a9 (by omega))
     ·rw [ai n2];exact s7 _ _ z5
     ·rw [ag,bc];rfl
     ·rw [ai n1];exact s7 _ _ (k5 b o n1 n2 e)
     ·rw [af,aJ]
     ·rw [mx,Nat.zero_add];have kt:∀ b ys,H7 b=some (.tup ys)->upd H7 l (.lst (as'.map V.ref++bs.map V.ref)) b=some (.tup ys):=λ b ys e=>by
       rw [ai λ z=>by rw [z,g7] at e;cases e];exact e
      exact AnsAt.app (ab7.kt kt) ((ans5.kt λ b ys e=>s7 b _ e).kt kt)
   ·rintro σ H4 ⟨v4,v5,v6,as',rfl,k4,hT4,g4,ans⟩;rw [ag,a2,aX,hfl] at ans;refine ⟨_,rfl,k1 z l as' H4 (λ b o n1 n2 e=>?_) hT4 g4 ans⟩;have e:=sb b o n1 n2 e;exact k4 b o (aK e hln) n2 (s3 _ _ (s1 _ _ e))
  ·obtain ⟨⟨ps0,eT,_⟩,_⟩:=id hT;exact pS hT.2 sb eT ne.symm
noncomputable def numsOf(ps:List (Nat × OI)):List Int:=ps.filterMap (·.2)
theorem zcd(ps:List (Nat × OI)):(numsOf ps).length<=ps.length:=List.length_filterMap_le ..
noncomputable def spA(t:Ad)(R:List (Nat × OI)->V->Hp->Prop):Sp:=λ vs H Q E=>∃ (c a:Addr) (q:QT) (xs:List OI),vs=[.ref c,.ref a]/\ColAt t.bv H c xs/\okC xs=true/\QAt H a q/\Tbs t H/\
 (okQ 1 q=true->∀ v H',Sb2 t H H'->Tbs t H'->R (cJ q.holds 0 xs) v H'->Q v H')/\(okQ 1 q=false->∀ H',Sb2 t H H'->Tbs t H'->E (.ref t.bx) none H')
noncomputable def mZ(ps:List (Nat × OI))(v:V)(H:Hp):Prop:=∃ l,v = .ref l/\H l=some (.lst ((numsOf ps).map V.int))
noncomputable def uq(ps:List (Nat × OI))(v:V)(H:Hp):Prop:=∃ l,v = .ref l/\H l=some (.lst ((ps.map λ p=>(p.1:Int)).map V.int))
noncomputable def ul(ps:List (Nat × OI))(v:V)(H:Hp):Prop:=v = .int ps.length
noncomputable def uu(ps:List (Nat × OI))(v:V)(H:Hp):Prop:=v = .int (numsOf ps).sum
theorem tm:(["row", "value"]:List Str).Nodup:=by decide +kernel
theorem ze0:aA ["self", "question"] ["self", "question"] (av nh):=by walk_at "sc"
theorem zc6(T:Txt K mg t)(CA:bB P w K mg base (CXr P w) 14 t.bv "answering" ["self", "question"] (kz t))(F:Fun K "numbers_answering" "Column.numbers_answering" nh f fd):
  FnOk P w K mg base (CXr P w) 15 f fd ["self", "question"] (spA t mZ):=by
 obtain ⟨rV,rW,iK,iZ,iO⟩:=CA;refine F.okX ze0 (λ vs H Q E h=>?_) (λ cdv A outer s H vs Q E hr h=>?_)
 ·obtain ⟨c,a,q,xs,rfl,_⟩:=h;rfl
 ·obtain ⟨c,a,q,xs,rfl,⟨dx,hC⟩,ok,hq,hT,k1,k2⟩:=h;have hl:=ip ok;have hu:=fu hr;refine ⟨_,(ao (ay (bX (N:=["row", "value"]) (fr:=[none,none]) ⟨rfl,rfl,rfl,rfl,rfl,rfl⟩ rfl (bY (bU (pv 0) T.eA iZ iK (hr.mono (by decide)) iO .nil cV (aa (pv 1) ad)))
    (λ C fp s H=>⟨fG K (n:=2) rfl (cW (aR (i:=0) tm rfl (Or.inl rfl)) (cW (aR (i:=1) tm rfl (Or.inl rfl)) fH)),(jc (aG jb (pv 1) bN (aF _))),(pv 1)⟩)))),?_⟩
  refine ⟨_,rfl,c,dx,_,rfl,hC,rfl,_,rfl,c,a,q,xs,rfl,⟨dx,hC⟩,ok,hq,hT,λ z l as H1 sb hT1 h1 ans=>?_,k2⟩;have hps:=hW q.holds 0 xs;have k1:=k1 z;generalize cJ q.holds 0 xs=ps at ans k1 hps;have hal:=ans.len;refine ⟨l,rfl,⟨_,SqL.of h1⟩,⟨cB (K:=K) (xs:=as.map V.ref) (λ i acc H'=>Same H1 H'/\acc=(numsOf (ps.take i)).map V.int) ⟨Same.refl _,rfl⟩ ?_ ?_ ?_ ?_⟩⟩
  ·rintro i acc H' hi ⟨s4,rfl⟩;have:=zcd (ps.take i);rw [be] at this;exact ⟨SqL.of (s4 _ _ h1),by rw [ag];omega⟩
  ·rw [ag];exact Nat.le_of_lt (a9 (by omega))
  ·rintro i x acc H' hx hlt ⟨s4,rfl⟩;have hi:i < as.length:=by rw [ag] at hlt;exact hlt
   rw [aL,aH hi] at hx;cases hx;obtain ⟨p,ep,ha⟩:=ans.get (aH hi);have tk:numsOf (ps.take (i+1))=numsOf (ps.take i)++numsOf [p]:=by rw [List.take_add_one,ep];exact List.filterMap_append
   refine ⟨as[i],_,rfl,SqT.of (s4 _ _ ha),rfl,_,_,rfl,_,_,rfl,rfl,(Wk.set rfl).trans (Wk.set rfl),_,rfl,?_⟩;obtain ⟨n,o⟩:=p;refine ⟨rfl,_,rfl,?_⟩;cases o with
   | none=>exact ap (cw hlt ⟨s4,by rw [tk];exact congrArg _ (List.append_nil _).symm⟩)
   | some x=>exact aw ⟨_,rfl,cw hlt ⟨s4,by rw [tk,aJ];rfl⟩⟩
  ·rintro acc H' ⟨s4,rfl⟩ p hp;refine k1 _ _ (sb.same (az s4 hp)) (hT1.same (az s4 hp)) ⟨p,rfl,?_⟩;rw [af,ag,hal,aX]
theorem tq:(["row", "value"]:List Str).Nodup:=by decide +kernel
theorem ze1:aA ["self", "question"] ["self", "question"] (av ni):=by walk_at "sc"
theorem zdk(T:Txt K mg t)(CA:bB P w K mg base (CXr P w) 14 t.bv "answering" ["self", "question"] (kz t))(F:Fun K "rows" "Column.rows" ni f fd):
  FnOk P w K mg base (CXr P w) 15 f fd ["self", "question"] (spA t uq):=by
 obtain ⟨rV,rW,iK,iZ,iO⟩:=CA;refine F.okX ze1 (λ vs H Q E h=>?_) (λ cdv A outer s H vs Q E hr h=>?_)
 ·obtain ⟨c,a,q,xs,rfl,_⟩:=h;rfl
 ·obtain ⟨c,a,q,xs,rfl,⟨dx,hC⟩,ok,hq,hT,k1,k2⟩:=h;have hl:=ip ok;have hu:=fu hr;refine ⟨_,(ao (ay (bX (N:=["row", "value"]) (fr:=[none,none]) ⟨rfl,rfl,rfl,rfl,rfl,rfl⟩ rfl (bY (bU (pv 0) T.eA iZ iK (hr.mono (by decide)) iO .nil cV (aa (pv 1) ad)))
    (λ C fp s H=>⟨fG K (n:=2) rfl (cW (aR (i:=0) tq rfl (Or.inl rfl)) (cW (aR (i:=1) tq rfl (Or.inl rfl)) fH)),bz,(pv 0)⟩)))),?_⟩
  refine ⟨_,rfl,c,dx,_,rfl,hC,rfl,_,rfl,c,a,q,xs,rfl,⟨dx,hC⟩,ok,hq,hT,λ z l as H1 sb hT1 h1 ans=>?_,k2⟩;have hps:=hW q.holds 0 xs;have k1:=k1 z;generalize cJ q.holds 0 xs=ps at ans k1 hps;have hal:=ans.len;refine ⟨l,rfl,⟨_,SqL.of h1⟩,⟨cB (K:=K) (xs:=as.map V.ref) (λ i acc H'=>Same H1 H'/\acc=((ps.take i).map λ p=>(p.1:Int)).map V.int) ⟨Same.refl _,rfl⟩ ?_ ?_ ?_ ?_⟩⟩
  ·rintro i acc H' hi ⟨s4,rfl⟩;exact ⟨SqL.of (s4 _ _ h1),by rw [ag,ag,be];exact Nat.min_le_left ..⟩
  ·rw [ag];exact Nat.le_of_lt (a9 (by omega))
  ·rintro i x acc H' hx hlt ⟨s4,rfl⟩;have hi:i < as.length:=by rw [ag] at hlt;exact hlt
   rw [aL,aH hi] at hx;cases hx;obtain ⟨p,ep,ha⟩:=ans.get (aH hi);refine ⟨as[i],_,rfl,SqT.of (s4 _ _ ha),rfl,_,_,rfl,_,_,rfl,rfl,(Wk.set rfl).trans (Wk.set rfl),tT ⟨_,rfl,cw hlt ⟨s4,?_⟩⟩⟩;rw [List.take_add_one,ep,aJ,aJ];rfl
  ·rintro acc H' ⟨s4,rfl⟩ p hp;refine k1 _ _ (sb.same (az s4 hp)) (hT1.same (az s4 hp)) ⟨p,rfl,?_⟩;rw [af,ag,hal,aX]
theorem zeY:aA ["self", "question"] ["self", "question"] (av na):=by walk_at "sc"
theorem zc2(T:Txt K mg t)(CA:bB P w K mg base (CXr P w) 14 t.bv "answering" ["self", "question"] (kz t))(F:Fun K "how_many" "Column.how_many" na f fd):
  FnOk P w K mg base (CXr P w) 15 f fd ["self", "question"] (spA t ul):=by
 obtain ⟨rV,rW,iK,iZ,iO⟩:=CA;refine F.okX zeY (λ vs H Q E h=>?_) (λ cdv A outer s H vs Q E hr h=>?_)
 ·obtain ⟨c,a,q,xs,rfl,_⟩:=h;rfl
 ·obtain ⟨c,a,q,xs,rfl,⟨dx,hC⟩,ok,hq,hT,k1,k2⟩:=h;refine ⟨_,(ao (ay (aP (cr K) (by rfl) T.bE PyProof.Rows.Boot.«len» (aa (bU (pv 0) T.eA iZ iK (hr.mono (by decide)) iO .nil cV (aa (pv 1) ad)) ad)))),?_⟩;refine ⟨_,rfl,c,dx,_,rfl,hC,rfl,_,rfl,c,a,q,xs,rfl,⟨dx,hC⟩,ok,hq,hT,λ z l as H1 sb hT1 h1 ans=>?_,k2⟩;refine ⟨l,_,rfl,.inl (SqL.of h1),k1 z _ _ sb hT1 ?_⟩;show V.int _=_;rw [ag,ans.len]
theorem ze2:aA ["self", "question"] ["self", "question"] (av nj):=by walk_at "sc"
theorem zdu(T:Txt K mg t)(CN:bB P w K mg base (CXr P w) 15 t.bv "numbers_answering" ["self", "question"] (spA t mZ))(F:Fun K "total" "Column.total" nj f fd):
  FnOk P w K mg base (CXr P w) 16 f fd ["self", "question"] (spA t uu):=by
 obtain ⟨yN,yP,lC,mB,lN⟩:=CN;refine F.okX ze2 (λ vs H Q E h=>?_) (λ cdv A outer s H vs Q E hr h=>?_)
 ·obtain ⟨c,a,q,xs,rfl,_⟩:=h;rfl
 ·obtain ⟨c,a,q,xs,rfl,⟨dx,hC⟩,ok,hq,hT,k1,k2⟩:=h;refine ⟨_,(ao (ay (aP (yd K rfl) (by rfl) T.zcc PyProof.Rows.Boot.«sum» (aa (bU (pv 0) T.eA mB lC (hr.mono (by decide)) lN .nil cV (aa (pv 1) ad)) ad)))),?_⟩;refine ⟨_,rfl,c,dx,_,rfl,hC,rfl,_,rfl,c,a,q,xs,rfl,⟨dx,hC⟩,ok,hq,hT,λ z v H1 sb hT1 ⟨l,e,h1⟩=>?_,k2⟩;subst e;exact ⟨l,_,rfl,SqL.of h1,k1 z _ _ sb hT1 rfl⟩
noncomputable def ui(ps:List (Nat × OI))(v:V)(H:Hp):Prop:=(numsOf ps=[]/\v = .non)\/∃ (l:Addr) (m M:Int),v = .ref l/\H l=some (.tup [.int m,.int M])/\m∈numsOf ps/\(∀ a∈numsOf ps,m<=a)/\M∈numsOf ps/\∀ a∈numsOf ps,a<=M
theorem sK:∀ (ns:List Int),ns≠[]->(∃ m∈ns,∀ a∈ns,m<=a)/\∃ m∈ns,∀ a∈ns,a<=m
 | [],h=>absurd rfl h
 | [n],_=>⟨⟨n,.head _,λ a ha=>by rw [al_mi.mp ha];exact Int.le_refl _⟩,n,.head _,λ a ha=>by rw [al_mi.mp ha];exact Int.le_refl _⟩
 | n::k::r,_=>by
  obtain ⟨⟨m,hm,h1⟩,M,hM,h2⟩:=sK (k::r) (List.cons_ne_nil _ _);refine ⟨?_,?_⟩
  ·by_cases h:n<=m
   ·exact ⟨n,.head _,λ a ha=>(al_mc.mp ha).elim (λ e=>by rw [e];exact Int.le_refl _) λ ha=>Int.le_trans h (h1 a ha)⟩
   ·exact ⟨m,.tail _ hm,λ a ha=>(al_mc.mp ha).elim (λ e=>by omega) λ ha=>h1 a ha⟩
  ·by_cases h:M<=n
   ·exact ⟨n,.head _,λ a ha=>(al_mc.mp ha).elim (λ e=>by rw [e];exact Int.le_refl _) λ ha=>Int.le_trans (h2 a ha) h⟩
   ·exact ⟨M,.tail _ hM,λ a ha=>(al_mc.mp ha).elim (λ e=>by omega) λ ha=>h2 a ha⟩
theorem sc_Column_ends:aA ["self", "question", "found"] ["self", "question"] (av m9):=by walk_at "sc"
theorem zcG(T:Txt K mg t)(CN:bB P w K mg base (CXr P w) 15 t.bv "numbers_answering" ["self", "question"] (spA t mZ))(F:Fun K "ends" "Column.ends" m9 f fd):
  FnOk P w K mg base (CXr P w) 16 f fd ["self", "question"] (spA t ui):=by
 obtain ⟨yN,yP,lC,mB,lN⟩:=CN;refine F.okX sc_Column_ends (λ vs H Q E h=>?_) (λ cdv A outer s H vs Q E hr h=>?_)
 ·obtain ⟨c,a,q,xs,rfl,_⟩:=h;rfl
 ·obtain ⟨c,a,q,xs,rfl,⟨dx,hC⟩,ok,hq,hT,k1,k2⟩:=h;refine ⟨_,(ak (aE (i:=2) sc_Column_ends.nd rfl (Or.inl rfl) (bU (pv 0) T.eA mB lC (hr.mono (by decide)) lN .nil cV (aa (pv 1) ad)))
  (ao (ay (dj (jf K (pv 2)) (cp (aa (aP (re K rfl) (by rfl) T.i6 PyProof.Rows.Boot.«min» (aa (pv 2) ad)) (aa (aP (q5 K rfl) (by rfl) T.i5 PyProof.Rows.Boot.«max» (aa (pv 2) ad)) ad))) bN)))),?_⟩
  refine ⟨_,rfl,c,dx,_,rfl,hC,rfl,_,rfl,c,a,q,xs,rfl,⟨dx,hC⟩,ok,hq,hT,λ z v H1 sb hT1 ⟨l,e,h1⟩=>?_,k2⟩;subst e;have k1:=k1 z;generalize cJ q.holds 0 xs=ps at h1 k1;refine ⟨_,rfl,l,_,rfl,SqL.of h1,?_⟩;by_cases en:numsOf ps=[]
  ·rw [en];exact ap (k1 _ _ sb hT1 (.inl ⟨en,rfl⟩))
  ·rw [show (!((numsOf ps).map V.int).isEmpty)=true by cases h:numsOf ps with | nil=>exact absurd h en | cons _ _=>rfl];obtain ⟨⟨m,hm,l1⟩,M,hM,l2⟩:=sK _ en;exact aw ⟨_,rfl,l,_,m,rfl,SqL.of h1,hm,l1,_,rfl,l,_,M,rfl,SqL.of h1,hM,l2,by show 2<=sizeLine;decide,λ p hp=>k1 _ _ (sb.same (Same.new hp)) (hT1.same (Same.new hp)) (.inr ⟨p,m,M,rfl,af,hm,l1,hM,l2⟩)⟩
noncomputable def dB:Nat->QT->Prop
 | 0,_=>False
 | _+1,.sm _=>True
 | d+1,.neg q=>dB d q
 | d+1,.both q r=>dB d q/\dB d r
 | d+1,.either q r=>dB d q/\dB d r
 | _+1,.bad _ _=>False
noncomputable def pD(K:W.Frag):Nat->Sp
 | 0=>λ _ _ _ _=>False
 | m+1=>λ vs H Q _=>∃ (s v:Addr) (ns:List Int) (k:Int) (xs:List OI) (d:Nat),vs=[.ref s,.int k,.ref v,.int d]/\SqL K H s (ns.map V.int)/\H v=some (.lst (xs.map ov))/\xs.length<=100/\1<=d/\d<=m+1/\
  ∀ a q H',Same H H'->QAt H' a q->dB d q->Q (.ref a) H'
theorem zbI:(["_law_j", "_law_script", "_law_values_here", "_law_deep", "_law_k"]:List Str).Nodup:=by decide +kernel
theorem zbJ:(["_law_value_here"]:List Str).Nodup:=by decide +kernel
theorem sc_l_question:aA ["_law_script", "_law_k", "_law_values_here", "_law_deep", "_law_number", "_law_word", "_law_parts", "_law_some", "_law_near"] ["_law_script", "_law_k", "_law_values_here", "_law_deep"] (av ou):=by walk_at "sc"
theorem zcZ{m:Nat}(T:Txt K mg t)(C__law_mix:Cal P w K mg base CX0 3 "_law_mix" ["_law_script", "_law_k"] (jo K))(C__law_question:Cal P w K mg base CX0 (3+m) "_law_question" ["_law_script", "_law_k", "_law_values_here", "_law_deep"] (pD K m))(F:Fun K "_law_question" "_law_question" ou f fd):
  FnOk P w K mg base CX0 (3+m+1) f fd ["_law_script", "_law_k", "_law_values_here", "_law_deep"] (pD K (m+1)):=by
 refine F.ok sc_l_question (λ vs H Q E h=>?_) (λ cdv A outer s H vs Q E hr h=>?_)
 ·obtain ⟨s,v,ns,k,xs,d,rfl,_⟩:=h;rfl
 ·obtain ⟨sc,v,ns,k,xs,d,rfl,hS,hv,hx,hd1,hd2,q⟩:=h;refine ⟨_,(ak (aE (i:=4) sc_l_question.nd rfl (Or.inl rfl) (C__law_mix.pe hr ax (aa (pv 0) (aa (pv 1) ad)) (by omega)))
  (ak (aS (PW.pt (eY (aG dh (pv 3) ae (aF _)) (gb (aG dh (aj bF (pv 4) ae) ae (aF _))))) (ak (aE (i:=5) sc_l_question.nd rfl (Or.inl rfl) (aN (bK K) (bS (aa aD (aa aD (aa aD ad)))) (aj bF (aj cC (pv 4) ae) ae) (λ _ _=>rfl)))
  (ak (gz (i:=6) sc_l_question.nd rfl (Or.inl rfl) (N:=["_law_j", "_law_script", "_law_values_here", "_law_deep", "_law_k"]) (fr:=[none,some 0,some 2,some 3,some 1]) ⟨rfl,rfl,rfl,rfl,rfl,rfl⟩ rfl (eX (by rfl) T.d4 (aa (aj a8 ae (iu xZ (by rfl) T.mL PyProof.Rows.Boot.«int» (aa (fE fD (pv 5) aD (aF _)) ad))) ad))
    (λ C fp s H=>⟨aR (i:=0) zbI rfl (Or.inl rfl),bz,(C__law_question.pe hr ax (aa (pv 1) (aa (aj a8 (aj a8 (aj d7 ae (pv 4)) ae) (pv 0)) (aa (pv 2) (aa (aj bR (pv 3) ae) ad)))) (by omega))⟩))
  (ao (ay (aj (i9 K) (cp (aa (pv 5) ad)) (iu (yf K) (by rfl) T.tI PyProof.Rows.Boot.«tuple» (aa (pv 6) ad)))))))
   aY)
  (ak (aE (i:=7) sc_l_question.nd rfl (Or.inl rfl) (aj ir (bX (N:=["_law_value_here"]) (fr:=[none]) ⟨rfl,rfl,rfl,rfl,rfl,rfl⟩ rfl (bY (pv 2))
    (λ C fp s H=>⟨aR (i:=0) zbJ rfl (Or.inl rfl),(jc (aG jb (pv 0) bN (aF _))),(pv 0)⟩)) (bS (aa ae ad))))
  (ak (aE (i:=8) sc_l_question.nd rfl (Or.inl rfl) (aj bR (aj a8 (aN (bK K) (pv 7) (aj bF (aj cC (pv 4) ae) (aP (cr K) (by rfl) T.bE PyProof.Rows.Boot.«len» (aa (pv 7) ad))) (λ _ _=>rfl)) (aj bF (aj cC (pv 4) ae) ae)) ae))
  (ak (aE (i:=5) sc_l_question.nd rfl (Or.inl rfl) (aN (bK K) (bS (aa aD (aa aD (aa aD (aa aD (aa aD (aa aD ad))))))) (aj bF (aj cC (pv 4) ae) ae) (λ _ _=>rfl)))
  (ak (aS (aG (ja K) (pv 5) (cp (aa aD (aa aD ad))) (by rfl)) (ao (ay (cp (aa (pv 5) ad))))
   aY)
  (ak (aS (aG bM (pv 5) aD (aF _)) (ao (ay (cp (aa (pv 5) (aa (dk (jm K) (bS (aa (pv 8) (aa (aN (bK K) (pv 7) (aj bF (aj cC (pv 4) ae) (aP (cr K) (by rfl) T.bE PyProof.Rows.Boot.«len» (aa (pv 7) ad))) (λ _ _=>rfl)) ad))) d9 (cL (aj bF (aj cC (pv 4) ae) ae))) ad)))))
   aY)
  (ao (ay (cp (aa (pv 5) (aa (pv 8) ad)))))))))))),?_⟩
  refine bH λ N0 hN0=>⟨_,rfl,_,rfl,sc,ns,k,rfl,hS,hN0 _ _ ?_⟩
  clear hN0 N0;generalize mix ns k=n;have hS0:=hS;have mod3:∀ i:Int,0<=i % 3/\i % 3 < 3:=λ i=>⟨Int.emod_nonneg _ (by decide),Int.emod_lt_of_pos _ (by decide)⟩
  refine bH λ N hN=>?_;have hN:=hN [some (.ref sc),some (.int k),some (.ref v),some (.int d),some (.int n),none,none,none,none] H ?S
  case S=>
   clear hN N C__law_question;refine ⟨_,rfl,v,rfl,⟨_,SqL.of hv⟩,⟨cB (K:=K) (xs:=xs.map ov) (λ i acc H'=>Same H H'/\acc=((xs.take i).filterMap id).map V.int) ⟨Same.refl _,rfl⟩ ?_ ?_ ?_ ?_⟩⟩
   ·rintro i acc H' hi ⟨s4,rfl⟩;have:=List.length_filterMap_le (id:OI->OI) (xs.take i);rw [be] at this;exact ⟨SqL.of (s4 _ _ hv),by rw [ag];exact Nat.le_trans this (Nat.min_le_left ..)⟩
   ·rw [ag];exact Nat.le_of_lt (a9 (by omega))
   ·rintro i x acc H' hx hlt ⟨s4,rfl⟩;have hi:i < xs.length:=by rw [ag] at hlt;exact hlt
    rw [aL,aH hi] at hx;cases hx;have tk:(xs.take (i+1)).filterMap id=(xs.take i).filterMap id++[xs[i]].filterMap id:=by rw [List.take_add_one,aH hi];exact List.filterMap_append
    refine ⟨Wk.set rfl,_,rfl,rfl,_,rfl,?_⟩;cases e:xs[i] with
    | none=>exact ap (cw hlt ⟨s4,by rw [tk,e];exact congrArg _ (List.append_nil _).symm⟩)
    | some x=>exact aw ⟨_,rfl,cw hlt ⟨s4,by rw [tk,e,aJ];rfl⟩⟩
   ·rintro acc H' ⟨s4,rfl⟩ p hp;rw [ag,aX];have hns:=List.length_filterMap_le (id:OI->OI) xs;generalize xs.filterMap id=nz at hns;refine ⟨aB rfl,λ l2 hl2=>⟨p,l2,_,_,rfl,rfl,by rw [ai (aK af hl2)];exact af,af,?_,λ l3 hl3=>?_⟩⟩
    ·rw [ag];exact Nat.le_of_lt (a9 (by simp;omega))
    have s3:=az (o:=.lst (nz.map V.int++[.int 0])) (az (o:=.lst [.int 0]) (az (o:=.lst (nz.map V.int)) s4 hp) hl2) hl3;have h3:(upd (upd (upd H' p (.lst (nz.map V.int))) l2 (.lst [.int 0])) l3 (.lst (nz.map V.int++[.int 0]))) l3=some (.lst ((nz++[0]).map V.int)):=by rw [af,aJ];rfl
    generalize upd (upd (upd H' p (.lst (nz.map V.int))) l2 (.lst [.int 0])) l3 (.lst (nz.map V.int++[.int 0]))=H3 at s3 h3;have hz:0 < (nz++[0]).length:=by simp
    have hzl:(nz++[0]).length<=200:=by simp;omega
    generalize nz++[0]=sm at h3 hz hzl;have at_sm:∀ i:Int,∃ y,atI (sm.map V.int) (i % ((sm.map V.int).length:Nat))=some (.int y):=λ i=>by
     rw [ag];have h1:=Int.emod_nonneg i (b:=(sm.length:Int)) (by omega);have h2:=Int.emod_lt_of_pos i (b:=(sm.length:Int)) (by omega);exact ⟨_,bW h1 (by rw [aL,aH (by omega:(i % (sm.length:Int)).toNat < sm.length)];rfl)⟩
    obtain ⟨y1,e1⟩:=at_sm (n / 16);obtain ⟨y2,e2⟩:=at_sm (n / 512);refine bH λ N0 hN0=>hN0 _ _ ?_;clear hN0 N0;refine bH λ N0 hN0=>?_;have cd:∀ {a b:Int},0 < b->b < 1073741824->jv a b:=λ h1 h2=>⟨h1,h2⟩
    refine ⟨_,rfl,_,rfl,_,_,rfl,rfl,cd (by decide) (by decide),_,rfl,l3,_,rfl,.inl (SqL.of h3),_,_,rfl,rfl,?_,l3,_,_,_,rfl,rfl,SqL.of h3,e1,_,rfl,_,_,rfl,rfl,cd (by decide) (by decide),_,_,rfl,rfl,(by show (0:Int) < 3;decide),_,_,rfl,rfl,_,_,rfl,rfl,hN0 _ _ ?_⟩
    ·show (0:Int) < _;rw [ag];omega
    clear hN0 N0;show eh _ _ _ [some (.ref sc),some (.int k),some (.ref v),some (.int d),some (.int n),none,none,some (.ref l3),some (.int (y1+n / 1024 % 3 - 1))] H3;generalize y1+n / 1024 % 3 - 1=near;refine bH λ N0 hN0=>⟨aB rfl,λ l4 hl4=>?_⟩
    have s5:=Same.new (o:=.lst [.str "all", .str "none", .str "is", .str "below", .str "above", .str "among"]) hl4;have h4:(upd H3 l4 (.lst [.str "all", .str "none", .str "is", .str "below", .str "above", .str "among"])) l4=some (.lst [.str "all", .str "none", .str "is", .str "below", .str "above", .str "among"]):=af;show tOp _ _ _ _ (upd H3 l4 (.lst [.str "all", .str "none", .str "is", .str "below", .str "above", .str "among"])) _;generalize upd H3 l4 (.lst [.str "all", .str "none", .str "is", .str "below", .str "above", .str "among"])=H4 at s5 h4 ⊢;have s4:=s3.trans s5;have h3:=s5 _ _ h3;obtain ⟨j,hj,ej⟩:∃ j:Nat,j < 6/\n / 4096 % 6=j:=by
     have h1:=Int.emod_nonneg (n / 4096) (b:=6) (by decide);have h2:=Int.emod_lt_of_pos (n / 4096) (b:=6) (by decide);exact ⟨(n / 4096 % 6).toNat,by omega,by omega⟩
    refine ⟨_,rfl,_,_,rfl,rfl,cd (by decide) (by decide),_,_,rfl,rfl,(by show (0:Int) < 6;decide),l4,_,_,.str (["all", "none", "is", "below", "above", "among"][j]'hj),rfl,rfl,SqL.of h4,?_,hN0 _ _ ?_⟩
    ·rw [ej];refine dG ?_
     match j,hj with
     | 0,_=>rfl
     | 1,_=>rfl
     | 2,_=>rfl
     | 3,_=>rfl
     | 4,_=>rfl
     | 5,_=>rfl
    clear hN0 N0;refine bH λ N1 hN1=>⟨_,rfl,aB rfl,λ l5 hl5=>⟨l5,_,rfl,.inr (SqT.of af),rfl,rfl,_,rfl,?_⟩⟩
    have s6:=s4.trans (Same.new (o:=.tup [.str "all", .str "none"]) hl5);have h6:=Same.new (o:=.tup [.str "all", .str "none"]) hl5 _ _ h3;generalize upd H4 l5 (.tup [.str "all", .str "none"])=H6 at s6 h6;have hN1:=hN1 [some (.ref sc),some (.int k),some (.ref v),some (.int d),some (.int n),some (.str (["all", "none", "is", "below", "above", "among"][j]'hj)),none,some (.ref l3),some (.int near)] H6;obtain ⟨d,rfl⟩:∃ d',d=d' + 1:=⟨d - 1,by omega⟩
    match j,hj with
    | 0,_=>exact aw ⟨_,rfl,aB rfl,λ p hp=>q p (.sm .all) _ (az s6 hp) af trivial⟩
    | 1,_=>exact aw ⟨_,rfl,aB rfl,λ p hp=>q p (.sm .none) _ (az s6 hp) af trivial⟩
    | 2,_=>exact ap (hN1 (bH λ N2 hN2=>⟨_,rfl,rfl,_,rfl,ap (hN2 _ _ ⟨_,rfl,_,rfl,aB rfl,λ p hp=>q p (.sm (.is near)) _ (az s6 hp) af trivial⟩)⟩))
    | 3,_=>exact ap (hN1 (bH λ N2 hN2=>⟨_,rfl,rfl,_,rfl,ap (hN2 _ _ ⟨_,rfl,_,rfl,aB rfl,λ p hp=>q p (.sm (.below near)) _ (az s6 hp) af trivial⟩)⟩))
    | 4,_=>exact ap (hN1 (bH λ N2 hN2=>⟨_,rfl,rfl,_,rfl,ap (hN2 _ _ ⟨_,rfl,_,rfl,aB rfl,λ p hp=>q p (.sm (.above near)) _ (az s6 hp) af trivial⟩)⟩))
    | 5,_=>
     refine ap (hN1 (bH λ N2 hN2=>⟨_,rfl,rfl,_,rfl,aw ?_⟩));refine ⟨_,rfl,_,rfl,_,rfl,_,rfl,_,_,rfl,rfl,cd (by decide) (by decide),_,rfl,l3,_,rfl,.inl (SqL.of h6),_,_,rfl,rfl,?_,l3,_,_,_,rfl,rfl,SqL.of h6,e2,aB rfl,λ l7 hl7=>?_⟩
     ·show (0:Int) < _;rw [ag];omega
     have s7:=az (o:=.lst [.int near,.int y2]) s6 hl7;refine ⟨_,rfl,_,_,rfl,rfl,cd (by decide) (by decide),_,_,rfl,rfl,(by show (0:Int) < 3;decide),_,rfl,?_⟩;refine ⟨l7,_,rfl,SqL.of af,λ l8 hl8=>⟨aB rfl,λ p hp=>?_⟩⟩;refine q p (.sm (.among (([near,y2].drop (HT.sIx 2 0 none)).take (HT.sIx 2 2 (some (n / 65536 % 3)) - HT.sIx 2 0 none)))) _ (az (az s7 hl8) hp) ⟨l8,af,?_,?_⟩ trivial
     ·rw [ai (aK af hp),af];unfold bw;rw [List.map_take,List.map_drop];rfl
     ·rw [be,List.length_drop];exact Nat.le_trans (Nat.min_le_right ..) (Nat.le_trans (Nat.sub_le ..) (by show 2<=1000;decide))
  show js _ _ _ _ _ _;refine ⟨_,rfl,_,_,rfl,rfl,_,rfl,?_⟩;by_cases hd:1 < d
  ·rw [aO (by omega:(1:Int) < d)];refine aw ⟨_,rfl,_,_,rfl,rfl,(by show (0:Int) < 3;decide),_,_,rfl,rfl,_,rfl,?_⟩;by_cases hn3:0 < n % 3
   ·rw [aO hn3];refine aw ?_;refine bH λ N0 hN0=>⟨aB rfl,λ l4 hl4=>?_⟩
    have s4:=Same.new (o:=.lst [.str "not", .str "both", .str "either"]) hl4;have h4:(upd H l4 (.lst [.str "not", .str "both", .str "either"])) l4=some (.lst [.str "not", .str "both", .str "either"]):=af;show tOp _ _ _ _ (upd H l4 (.lst [.str "not", .str "both", .str "either"])) _;generalize upd H l4 (.lst [.str "not", .str "both", .str "either"])=H4 at s4 h4 ⊢;obtain ⟨j,hj,ej⟩:∃ j:Nat,j < 3/\n / 3 % 3=j:=by
     have h1:=mod3 (n / 3);exact ⟨(n / 3 % 3).toNat,by omega,by omega⟩
    refine ⟨_,rfl,_,_,rfl,rfl,⟨by decide,by decide⟩,_,_,rfl,rfl,(by show (0:Int) < 3;decide),l4,_,_,.str (["not", "both", "either"][j]'hj),rfl,rfl,SqL.of h4,?_,hN0 _ _ ?_⟩
    ·rw [ej];refine dG ?_
     match j,hj with
     | 0,_=>rfl
     | 1,_=>rfl
     | 2,_=>rfl
    clear hN0 N0;obtain ⟨d,rfl⟩:∃ d',d=d' + 1:=⟨d - 1,by omega⟩
    obtain ⟨m,rfl⟩:∃ m',m=m' + 1:=⟨m - 1,by omega⟩
    obtain ⟨c,hc,ec⟩:∃ c:Nat,(c=if j=0 then 1 else 2)/\(1+if (!decide (V.str (["not", "both", "either"][j]'hj)=V.str "not"))=true then 1 else 0:Int)=c:=⟨_,rfl,by
     match j,hj with
     | 0,_=>rfl
     | 1,_=>rfl
     | 2,_=>rfl⟩
    have hc2:c<=2:=by rw [hc];split <;> decide
    refine bH λ N0 hN0=>⟨_,rfl,rfl,.inr ⟨_,rfl,_,_,rfl,rfl,_,rfl,?_⟩⟩
    dsimp only;rw [ec,Int.toNat_natCast];refine ⟨by omega,by omega,⟨gq (n:=c) (λ i acc H'=>∃ as:List Addr,acc=as.map V.ref/\as.length=i/\Same H4 H'/\∀ a∈as,∃ q,QAt H' a q/\dB d q) ⟨[],rfl,rfl,Same.refl _,nofun⟩ ?_ (Nat.le_of_lt (a9 (by omega))) ?_ ?_⟩⟩
    ·rintro i acc H' hi ⟨as,rfl,hl,_⟩;rw [ag,hl];exact Nat.le_refl _
    ·rintro i acc H' hi ⟨as,rfl,hl,s5,ha⟩;refine ⟨Wk.set rfl,tT ⟨_,rfl,_,rfl,_,_,rfl,rfl,.inl ⟨by decide,by decide⟩,_,_,rfl,rfl,_,rfl,_,_,rfl,rfl,_,rfl,_,rfl,_,_,rfl,rfl,?_⟩⟩;refine ⟨sc,v,ns,2 * k+1+(0+(i:Int)),xs,d,?_,s5.seq (s4.seq hS),s5 _ _ (s4 _ _ hv),hx,by omega,by omega,λ a q' H6 s6 hq' hf=>cw hi ⟨as++[a],by rw [aJ];rfl,by rw [bc,hl];rfl,s5.trans s6,λ b hb=>?_⟩⟩
     ·show [V.ref sc,V.int (2 * k+1+(0+(i:Int))),V.ref v,V.int (((d+1:Nat):Int) - 1)]=_;rw [show (((d+1:Nat):Int) - 1)=(d:Int) by omega]
     ·rcases al_mp.mp hb with h | h
      ·obtain ⟨q0,h1,h2⟩:=ha b h;exact ⟨q0,h1.kt (bZ s6),h2⟩
      ·rw [al_mi.mp h];exact ⟨q',hq',hf⟩
    ·rintro acc H5 ⟨as,rfl,hl,s5,ha⟩ p hp;have s6:Same H (upd H5 p (.lst (as.map V.ref))):=az (s4.trans s5) hp;have h6:(upd H5 p (.lst (as.map V.ref))) p=some (.lst (as.map V.ref)):=af;have ha6:∀ a∈as,∃ q,QAt (upd H5 p (.lst (as.map V.ref))) a q/\dB d q:=λ a h=>let ⟨q,h1,h2⟩:=ha a h;⟨q,h1.kt (bZ (Same.new hp)),h2⟩;show N0 _ (upd H5 p (.lst (as.map V.ref)));generalize upd H5 p (.lst (as.map V.ref))=H6 at s6 h6 ha6 ⊢;refine hN0 _ _ ⟨_,rfl,aB rfl,λ pt hpt=>⟨_,rfl,p,_,rfl,.inl ⟨SqL.of (Same.new hpt _ _ h6),λ pl hpl=>?_⟩⟩⟩;refine ⟨pt,pl,_,_,rfl,rfl,SqT.of (Same.new hpl _ _ af),SqT.of af,List.cons_ne_nil _ _,?_,λ z=>?_,λ _ pr hpr=>?_⟩
     ·show 1+(as.map V.ref).length<=_;rw [ag,hl];exact Nat.le_of_lt (a9 (by omega))
     ·exfalso;have:=congrArg List.length z;rw [ag,hl] at this;rw [hc] at this
      split at this <;> cases this
     have s7:=az (o:=.tup ([.str (["not", "both", "either"][j]'hj)]++as.map V.ref)) (az (o:=.tup (as.map V.ref)) (Same.new (o:=.tup [.str (["not", "both", "either"][j]'hj)]) hpt) hpl) hpr;have ha7:∀ a∈as,∃ q,QAt (upd (upd (upd H6 pt (.tup [.str (["not", "both", "either"][j]'hj)])) pl (.tup (as.map V.ref))) pr (.tup ([.str (["not", "both", "either"][j]'hj)]++as.map V.ref))) a q/\dB d q:=λ a h=>let ⟨q,h1,h2⟩:=ha6 a h;⟨q,h1.kt (bZ s7),h2⟩;have h7:(upd (upd (upd H6 pt (.tup [.str (["not", "both", "either"][j]'hj)])) pl (.tup (as.map V.ref))) pr (.tup ([.str (["not", "both", "either"][j]'hj)]++as.map V.ref))) pr=some (.tup ([.str (["not", "both", "either"][j]'hj)]++as.map V.ref)):=af;show Q (.ref pr) (upd (upd (upd H6 pt (.tup [.str (["not", "both", "either"][j]'hj)])) pl (.tup (as.map V.ref))) pr (.tup ([.str (["not", "both", "either"][j]'hj)]++as.map V.ref)));generalize upd (upd (upd H6 pt (.tup [.str (["not", "both", "either"][j]'hj)])) pl (.tup (as.map V.ref))) pr (.tup ([.str (["not", "both", "either"][j]'hj)]++as.map V.ref))=H7 at s7 ha7 h7 ⊢;have s7:=s6.trans s7
     match j,hj,as,hl,hc with
     | 0,_,[a],_,_=>
      obtain ⟨q0,h1,h2⟩:=ha7 a (.head _);exact q pr (.neg q0) H7 s7 ⟨a,h7,h1⟩ h2
     | 1,_,[a,b],_,_=>
      obtain ⟨q0,h1,h2⟩:=ha7 a (.head _);obtain ⟨q1,h3,h4⟩:=ha7 b (.tail _ (.head _));exact q pr (.both q0 q1) H7 s7 ⟨a,b,h7,h1,h3⟩ ⟨h2,h4⟩
     | 2,_,[a,b],_,_=>
      obtain ⟨q0,h1,h2⟩:=ha7 a (.head _);obtain ⟨q1,h3,h4⟩:=ha7 b (.tail _ (.head _));exact q pr (.either q0 q1) H7 s7 ⟨a,b,h7,h1,h3⟩ ⟨h2,h4⟩
   ·rw [aM hn3];exact ap hN
  ·rw [aM (by omega:¬ (1:Int) < d)];exact ap hN
theorem pW:∀ (l:List (Str × V)) (x:Str),bd (l.map λ p=>((.inr p.1:Key),p.2)) (.inr x)=l.lookup x
 | [],_=>rfl
 | (k,v)::r,x=>by
  have ih:=pW r x;unfold bd at ih ⊢;rw [List.map_cons,List.find?_cons,List.lookup_cons];by_cases e:x=k
  ·subst e;simp
  ·rw [aM (by intro z;exact e (Sum.inr.inj z).symm),show (x == k)=false from beq_eq_false_iff_ne.mpr e];exact ih
theorem tO{σ:St}:∀ (kvs:List (Key × V)) {H:Hp} {Q:List (V × V)->Hp->Prop},Q (kvs.map λ kv=>(kV kv.1,kv.2)) H->kH (kvs.map λ kv=>(tC (kV kv.1),tC kv.2)) σ H Q
 | [],_,_,h=>h
 | kv::r,H,Q,h=>tO r (Q:=λ ps H3=>Q ((kV kv.1,kv.2)::ps) H3) h
theorem yF{trs:List (TE × TE)}(kvs:List (Key × V))(e:trs=kvs.map λ kv=>(tC (kV kv.1),tC kv.2))(hl:kvs.length<=15)(h:∀ p,H p=none->Q (.ref p) (upd (upd H p (.dK [])) p (.dK (eS [] kvs)))):kG trs σ H Q:=by
 subst e;exact λ p hp=>tO kvs ⟨af,kvs,rfl,hl,h p hp⟩
noncomputable def szL:List (Key × V):=(SL++JL).map λ p=>((.inr p.1:Key),p.2)
theorem zfU(h1:JL.lookup x≠some (.int n))(h2:JL.lookup x=none->SL.lookup x≠some (.int n))(h0:n≠0):(bd szL (.inr x)).getD (.int 0)≠.int n:=by
 unfold szL;rw [pW,List.lookup_append];cases e:SL.lookup x with
 | none=>
  cases e2:JL.lookup x with
  | none=>intro z;exact h0 (by have:=V.int.inj z;omega)
  | some v=>intro z;exact h1 (by rw [e2];exact congrArg _ z)
 | some v=>
  have:JL.lookup x=none:=by
   have:=PySem.mem_of_lookup e;simp only [SL,al_mc,List.not_mem_nil,or_false,Prod.mk.injEq] at this;rcases this with ⟨h,_⟩ | ⟨h,_⟩ | ⟨h,_⟩ | ⟨h,_⟩ | ⟨h,_⟩ | ⟨h,_⟩ <;> rw [h] <;> rfl
  intro z;exact h2 this (by rw [e];exact congrArg _ z)
theorem zfW(x:Str):∃ n:Nat,(bd szL (.inr x)).getD (.int 0) = .int n:=by
 unfold szL;rw [pW];cases e:(SL++JL).lookup x with
 | none=>exact ⟨0,rfl⟩
 | some v=>
  have:=PySem.mem_of_lookup e;simp only [SL,JL,List.cons_append,List.nil_append,al_mc,List.not_mem_nil,or_false,Prod.mk.injEq] at this;rcases this with ⟨_,h⟩ | ⟨_,h⟩ | ⟨_,h⟩ | ⟨_,h⟩ | ⟨_,h⟩ | ⟨_,h⟩ | ⟨_,h⟩ | ⟨_,h⟩ | ⟨_,h⟩
  ·exact ⟨1,h⟩
  ·exact ⟨1,h⟩
  all_goals first | exact ⟨2,h⟩ | exact ⟨3,h⟩
noncomputable def QT.isBad:QT->Bool
 | .bad _ _=>true
 | _=>false
theorem zfV   : ∀ {q:QT} {xs:List V},QAt H a q->H a=some (.tup (.str q.wd::xs))->q.isBad=false->(bd szL (.inr q.wd)).getD (.int 0) = .int (xs.length+1:Nat)
 | .sm (.among _),_,⟨_,e,_⟩,h,_=>by rw [e] at h;cases h;rfl
 | .sm .all,_,e,h,_=>by rw [show H a=_ from e] at h;cases h;rfl
 | .sm .none,_,e,h,_=>by rw [show H a=_ from e] at h;cases h;rfl
 | .sm (.is _),_,e,h,_=>by rw [show H a=_ from e] at h;cases h;rfl
 | .sm (.below _),_,e,h,_=>by rw [show H a=_ from e] at h;cases h;rfl
 | .sm (.above _),_,e,h,_=>by rw [show H a=_ from e] at h;cases h;rfl
 | .neg _,_,⟨_,e,_⟩,h,_=>by rw [e] at h;cases h;rfl
 | .both _ _,_,⟨_,_,e,_⟩,h,_=>by rw [e] at h;cases h;rfl
 | .either _ _,_,⟨_,_,e,_⟩,h,_=>by rw [e] at h;cases h;rfl
theorem sv:∀ {q:QT},q.isBad=false->inV (.str q.wd) [.str "not", .str "both", .str "either"]=q.jn
 | .sm (.among _),_=>rfl
 | .sm .all,_=>rfl
 | .sm .none,_=>rfl
 | .sm (.is _),_=>rfl
 | .sm (.below _),_=>rfl
 | .sm (.above _),_=>rfl
 | .neg _,_=>rfl
 | .both _ _,_=>rfl
 | .either _ _,_=>rfl
theorem zch(h:d<=6):∀ {q:QT},q.isBad=false->q.jn=false->okQ d q=true
 | .sm _,_,_=>aO h
noncomputable def pC:Nat->Sp
 | 0=>λ _ _ _ _=>False
 | m+1=>λ vs H Q _=>∃ (a:Addr) (d:Nat) (q:QT),vs=[.ref a,.int d]/\QAt H a q/\7<=d+m/\∀ H',Same H H'->Q (.bl (okQ d q)) H'
theorem zbH:(["_law_part", "_law_deep"]:List Str).Nodup:=by decide +kernel
theorem sc_l_good:aA ["_law_question_here", "_law_deep", "_law_sizes"] ["_law_question_here", "_law_deep"] (av om):=by walk_at "sc"
theorem zcX{m:Nat}(T:Txt K mg t)(C__law_good:Cal P w K mg base CX0 (1+m) "_law_good" ["_law_question_here", "_law_deep"] (pC m))(F:Fun K "_law_good" "_law_good" om f fd):
  FnOk P w K mg base CX0 (1+m+1) f fd ["_law_question_here", "_law_deep"] (pC (m+1)):=by
 refine F.ok sc_l_good (λ vs H Q E h=>?_) (λ cdv A outer s H vs Q E hr h=>?_)
 ·obtain ⟨a,d,q,rfl,_⟩:=h;rfl
 ·obtain ⟨a,d,q,rfl,hq,hd,k⟩:=h;have hu:=fu hr;obtain ⟨xs,ha,hx,hj⟩:=hq.tup;refine zn ⟨_,(zej (i:=2) sc_l_good.nd rfl (Or.inl rfl) (zdX (fJ aD ae (fJ aD ae (fJ aD ae (fJ aD ae (fJ aD ae (fJ aD ae (fJ aD ae (fJ aD ae (fJ aD ae zd9))))))))) (aB rfl))
  (ak (aS (PW.pt (eZ (aG dh (pv 1) ae (aF _)) (fL (aG fD (zdT hu (pv 2) (aN (bL K) (pv 0) ae (λ _ _=>rfl)) ae ⟨rfl,rfl,rfl,rfl⟩) (aP (cr K) (by rfl) T.bE PyProof.Rows.Boot.«len» (aa (pv 0) ad)) (aF _))))) (ao (ay eV))
   aY)
  (ak (aS (aG (ja K) (aN (bL K) (pv 0) ae (λ _ _=>rfl)) (cp (aa aD (aa aD (aa aD ad)))) (by rfl)) (ao (ay (aP (qW K rfl) (by rfl) T.mH PyProof.Rows.Boot.«all» (aa (bX (N:=["_law_part", "_law_deep"]) (fr:=[none,some 1]) ⟨rfl,rfl,rfl,rfl,rfl,rfl⟩ rfl (kg (dk (gc K) (pv 0) (cL ae) d9))
    (λ C fp s H=>⟨aR (i:=0) zbH rfl (Or.inl rfl),bz,(C__law_good.pe hr ax (aa (pv 0) (aa (aj a8 (pv 1) ae) ad)) (by omega))⟩)) ad))))
   aY)
  (ao (ay eV))))),?_⟩
  refine bH λ N0 hN0=>yF szL rfl (aB rfl) λ p hp=>hN0 _ _ ?_;have s1:Same H (upd (upd H p (.dK [])) p (.dK (eS [] szL))):=λ b o e=>by rw [ai (aK e hp),ai (aK e hp)];exact e
  have h1:(upd (upd H p (.dK [])) p (.dK (eS [] szL))) p=some (.dK szL):=af;show eh _ _ _ [some (.ref a),some (.int d),some (.ref p)] (upd (upd H p (.dK [])) p (.dK (eS [] szL)));generalize upd (upd H p (.dK [])) p (.dK (eS [] szL))=H1 at s1 h1 ⊢;clear hN0 N0;have ha1:=s1 _ _ ha;refine bH λ N1 hN1=>⟨_,rfl,_,_,rfl,rfl,_,rfl,?_⟩
  by_cases d6:6 < d
  ·rw [aO (by omega:(6:Int) < d)];have:=k H1 s1;rw [mM d6 q] at this;exact aw (aw this)
  rw [aM (by omega:¬ (6:Int) < d)];refine ap ⟨_,rfl,p,rfl,.inl ⟨_,.inl h1⟩,_,rfl,a,_,_,_,rfl,rfl,SqT.of ha1,bW (by decide) rfl,_,DGet.k (k:=.inr q.wd) h1,_,rfl,a,_,rfl,.inr (SqT.of ha1),?_⟩;obtain ⟨n,en⟩:=zfW q.wd;dsimp only;rw [en];refine ⟨rfl,_,rfl,?_⟩;cases hb:q.isBad with
  | true=>
   obtain ⟨x,vs,rfl⟩:∃ x vs,q = .bad x vs:=by cases q <;> first | exact ⟨_,_,rfl⟩ | cases hb
   obtain ⟨e,_,b1,b2⟩:=id hq;rw [ha] at e;cases e;have:=zfU b1 b2 (Nat.succ_ne_zero _);rw [show (V.int ((V.str (QT.bad x xs).wd::xs).length:Nat))=V.int (xs.length+1:Nat) from rfl,aM (by rw [← en];exact this)];exact aw (k H1 s1)
  | false=>
   have e1:=zfV hq ha hb;rw [en] at e1;rw [show (V.int ((V.str q.wd::xs).length:Nat))=V.int (xs.length+1:Nat) from rfl,e1,aO rfl];refine ap (hN1 _ _ ?_);clear hN1 N1;refine bH λ N2 hN2=>⟨_,rfl,a,_,_,_,rfl,rfl,SqT.of ha1,bW (by decide) rfl,aB rfl,λ pt hpt=>⟨pt,_,rfl,.inr (SqT.of af),rfl,rfl,_,rfl,?_⟩⟩
   have s2:=s1.trans (Same.new (o:=.tup [.str "not", .str "both", .str "either"]) hpt);generalize upd H1 pt (.tup [.str "not", .str "both", .str "either"])=H2 at s2;show if inV (.str q.wd) [.str "not", .str "both", .str "either"]=true then _ else _
   rw [sv hb];have ha2:=s2 _ _ ha;have hq2:=hq.kt (bZ s2);cases hj:q.jn with
   | false=>
    refine ap (hN2 _ _ ?_);have:=k H2 s2;rw [zch (by omega) hb hj] at this;exact this
   | true=>
    obtain ⟨bs,hb2,hbl,hbn,_,hbq⟩:=hq.parts hj;rw [ha] at hb2;cases hb2;have ep:=mO (d:=d) (by omega) hj;refine aw ⟨_,rfl,1,rfl,a,_,rfl,SqT.of ha2,fO _ _,λ pl hpl=>⟨pl,rfl,⟨_,SqT.of af⟩,?_⟩⟩;rw [show bw (V.str q.wd::bs.map V.ref) (some 1) none=bs.map V.ref from kJ _ _];have s3:=s2.trans (Same.new (o:=.tup (bs.map V.ref)) hpl);have h3:(upd H2 pl (.tup (bs.map V.ref))) pl=some (.tup (bs.map V.ref)):=af;generalize upd H2 pl (.tup (bs.map V.ref))=H3 at s3 h3;refine ⟨lW (K:=K) (xs:=bs.map V.ref) (λ i acc H'=>Same H3 H'/\acc=((q.parts.take i).map (okQ (d+1))).map V.bl) ⟨Same.refl _,rfl⟩ ?_ ?_ ?_ ?_⟩
    ·rintro i acc H' hi ⟨s4,rfl⟩;exact ⟨SqT.of (s4 _ _ h3),by rw [ag,ag,be];exact Nat.min_le_left ..⟩
    ·rw [ag];exact Nat.le_of_lt (a9 (by omega))
    ·rintro i x acc H' hx hlt ⟨s4,rfl⟩;have hi:i < bs.length:=by rw [ag] at hlt;exact hlt
     rw [aL,aH hi] at hx;cases hx;have hpi:q.parts[i]?=some (q.parts[i]'(by omega)):=aH (by omega);obtain ⟨m,rfl⟩:∃ m',m=m' + 1:=⟨m - 1,by omega⟩
     refine ⟨Wk.set rfl,tT ⟨_,rfl,_,rfl,_,_,rfl,rfl,bs[i],d+1,q.parts[i]'(by omega),rfl,(hbq i _ _ (aH hi) hpi).kt (bZ (s3.trans s4)),by omega,λ H5 s5=>cw hlt ⟨s4.trans s5,?_⟩⟩⟩;rw [List.take_add_one,hpi,aJ,aJ];rfl
    ·rintro acc H' ⟨s4,rfl⟩ r hr';refine ⟨r,q.parts.map (okQ (d+1)),rfl,SqL.of ?_,?_⟩
     ·rw [af,ag,hbl,aX]
     ·have:=k _ (az (o:=.lst (((q.parts.take (bs.map V.ref).length).map (okQ (d+1))).map V.bl)) (s3.trans s4) hr');rw [ep] at this;rw [List.all_map];exact this
theorem yu(x y:V)(r:List V):bw (x::y::r) none (some 1)=[x]:=by
 unfold bw;rw [show (some (1:Int))=some ((1:Nat):Int) from rfl,HT.sIx_nat,HT.sIx_none,List.length_cons,List.length_cons,Nat.min_eq_left (by omega)];rfl
theorem zdy(x y:V)(r:List V):¬ (HT.sIx (x::y::r).length 0 none=0/\HT.sIx (x::y::r).length (x::y::r).length (some 1)=(x::y::r).length):=λ z=>by
 have:=z.2;rw [show (some (1:Int))=some ((1:Nat):Int) from rfl,HT.sIx_nat,List.length_cons,List.length_cons] at this;omega
theorem zgH(x y:V)(r:List V):¬ (HT.sIx (x::y::r).length 0 (some 2)=0/\HT.sIx (x::y::r).length (x::y::r).length none=(x::y::r).length):=λ z=>by
 have:=z.1;rw [show (some (2:Int))=some ((2:Nat):Int) from rfl,HT.sIx_nat,List.length_cons,List.length_cons] at this;omega
theorem yt(x y:V)(r:List V):bw (x::y::r) (some 2) none=r:=L2.cut_drop (x::y::r) (b:=2) (by simp)
theorem sw(n:Nat):HT.sIx (n+1) (n+1) (some (-1))=n:=by
 show (if (-1:Int) < 0 then (-1+((n+1:Nat):Int)).toNat else min (-1:Int).toNat (n+1))=n;rw [if_pos (by decide)];omega
theorem zO(x y:V)(r:List V):bw (x::y::r) none (some (-1))=x::(y::r).dropLast:=by
 unfold bw;rw [List.length_cons,sw,HT.sIx_none,List.drop_zero,Nat.sub_zero];show x::(y::r).take r.length=_;rw [List.dropLast_eq_take];rfl
theorem zP(x y:V)(r:List V):¬ (HT.sIx (x::y::r).length 0 none=0/\HT.sIx (x::y::r).length (x::y::r).length (some (-1))=(x::y::r).length):=λ z=>by
 have:=z.2;rw [List.length_cons,sw] at this;omega
theorem zfX   : ∀ {q:QT} {xs:List V},QAt H a q->H a=some (.tup (.str q.wd::xs))->q.isBad=false->JL.lookup q.wd=some (.int (xs.length+1:Nat))\/(JL.lookup q.wd=none/\SL.lookup q.wd=some (.int (xs.length+1:Nat)))
 | .sm (.among _),_,⟨_,e,_⟩,h,_=>by rw [e] at h;cases h;exact .inr ⟨rfl,rfl⟩
 | .sm .all,_,e,h,_=>by rw [show H a=_ from e] at h;cases h;exact .inr ⟨rfl,rfl⟩
 | .sm .none,_,e,h,_=>by rw [show H a=_ from e] at h;cases h;exact .inr ⟨rfl,rfl⟩
 | .sm (.is _),_,e,h,_=>by rw [show H a=_ from e] at h;cases h;exact .inr ⟨rfl,rfl⟩
 | .sm (.below _),_,e,h,_=>by rw [show H a=_ from e] at h;cases h;exact .inr ⟨rfl,rfl⟩
 | .sm (.above _),_,e,h,_=>by rw [show H a=_ from e] at h;cases h;exact .inr ⟨rfl,rfl⟩
 | .neg _,_,⟨_,e,_⟩,h,_=>by rw [e] at h;cases h;exact .inl rfl
 | .both _ _,_,⟨_,_,e,_⟩,h,_=>by rw [e] at h;cases h;exact .inl rfl
 | .either _ _,_,⟨_,_,e,_⟩,h,_=>by rw [e] at h;cases h;exact .inl rfl
theorem yQ   : ∀ {q:QT} {xs:List V},QAt H a q->H a=some (.tup (.str q.wd::xs))->q.isBad=false->xs.length<=2
 | .sm (.among _),_,⟨_,e,_⟩,h,_=>by rw [e] at h;cases h;exact aB rfl
 | .sm .all,_,e,h,_=>by rw [show H a=_ from e] at h;cases h;exact aB rfl
 | .sm .none,_,e,h,_=>by rw [show H a=_ from e] at h;cases h;exact aB rfl
 | .sm (.is _),_,e,h,_=>by rw [show H a=_ from e] at h;cases h;exact aB rfl
 | .sm (.below _),_,e,h,_=>by rw [show H a=_ from e] at h;cases h;exact aB rfl
 | .sm (.above _),_,e,h,_=>by rw [show H a=_ from e] at h;cases h;exact aB rfl
 | .neg _,_,⟨_,e,_⟩,h,_=>by rw [e] at h;cases h;exact aB rfl
 | .both _ _,_,⟨_,_,e,_⟩,h,_=>by rw [e] at h;cases h;exact aB rfl
 | .either _ _,_,⟨_,_,e,_⟩,h,_=>by rw [e] at h;cases h;exact aB rfl
theorem yT:∀ {m:Nat} {q:QT},dB (m+1) q->q.jn=true->∃ p0 pr,q.parts=p0::pr/\dB m p0
 | _,.neg q,h,_=>⟨q,[],rfl,h⟩
 | _,.both q r,h,_=>⟨q,[r],rfl,h.1⟩
 | _,.either q r,h,_=>⟨q,[r],rfl,h.1⟩
theorem uf{b:Addr}{q':QT}{br:List Addr}(g:QAt H c q'):∀ {q:QT},QAt H a q->H a=some (.tup (.str q.wd :: .ref b::br.map V.ref))->q.jn=true->H p=some (.tup (.str q.wd :: .ref c::br.map V.ref))->∃ q2,QAt H p q2
 | .neg q,⟨b1,e,h1⟩,h,_,hp=>by
  rw [e] at h;obtain rfl:br=[]:=by cases br with | nil=>rfl | cons x y=>cases h
  exact ⟨.neg q',c,hp,g⟩
 | .both q r,⟨b1,c1,e,h1,h2⟩,h,_,hp=>by
  rw [e] at h;obtain rfl:br=[c1]:=by rcases br with _ | ⟨x,_ | ⟨y,z⟩⟩ <;> cases h;rfl
  exact ⟨.both q' r,c,c1,hp,g,h2⟩
 | .either q r,⟨b1,c1,e,h1,h2⟩,h,_,hp=>by
  rw [e] at h;obtain rfl:br=[c1]:=by rcases br with _ | ⟨x,_ | ⟨y,z⟩⟩ <;> cases h;rfl
  exact ⟨.either q' r,c,c1,hp,g,h2⟩
theorem qA{q:QT}{xs ys:List V}(hq:QAt H a q)(ha:H a=some (.tup (.str q.wd::xs)))(hb:q.isBad=false)(h:H' a'=some (.tup (.str q.wd::ys)))(hl:ys.length<=1000)(n:ys.length≠xs.length):QAt H' a' (.bad q.wd ys):=by
 refine ⟨h,hl,?_⟩;have ne:(some (V.int (xs.length+1:Nat)))≠some (V.int (ys.length+1:Nat)):=λ z=>n (by have:=V.int.inj (Option.some.inj z);omega);rcases zfX hq ha hb with e | ⟨e1,e2⟩
 ·rw [e];exact ⟨ne,λ z=>by cases z⟩
 ·rw [e1,e2];exact ⟨nofun,λ _=>ne⟩
theorem yS:∀ {d:Nat} {q:QT},dB d q->q.isBad=false
 | 0,_,h=>h.elim
 | _+1,.sm _,_=>rfl
 | _+1,.neg _,_=>rfl
 | _+1,.both _ _,_=>rfl
 | _+1,.either _ _,_=>rfl
theorem fR{xs:List V}(h:H p=some (.tup (.str "both" :: xs)))(hl:xs.length<=1000)(n:xs.length≠2):QAt H p (.bad "both" xs):=
 ⟨h,hl,λ z=>n (by have:(3:Int)=((xs.length+1:Nat):Int):=V.int.inj (Option.some.inj (show some (V.int 3)=some (V.int (xs.length+1:Nat)) from z));omega),λ z=>by have e:JL.lookup (Str.ofString "both")=some (V.int 3):=rfl;rw [e] at z;cases z⟩
theorem jN{xs:List V}(h1:JL.lookup x=none)(h2:SL.lookup x=none)(h:H p=some (.tup (.str x::xs)))(hl:xs.length<=1000):QAt H p (.bad x xs):=
 ⟨h,hl,by rw [h1];exact nofun,λ _=>by rw [h2];exact nofun⟩
noncomputable def words5:List Str:=["nots", "alls", "both", "", "iss"]
theorem zfO   : ∀ {q:QT} {xs:List V},QAt H a q->H a=some (.tup (.str q.wd::xs))->q.isBad=false->H a'=some (.tup (.str "both" :: xs))->∃ q',QAt H a' q'
 | .sm (.among _),_,⟨_,e,_⟩,h,_,g=>by rw [e] at h;cases h;exact ⟨_,fR g (aB rfl) (λ z=>by cases z)⟩
 | .sm .all,_,e,h,_,g=>by rw [show H a=_ from e] at h;cases h;exact ⟨_,fR g (aB rfl) (λ z=>by cases z)⟩
 | .sm .none,_,e,h,_,g=>by rw [show H a=_ from e] at h;cases h;exact ⟨_,fR g (aB rfl) (λ z=>by cases z)⟩
 | .sm (.is _),_,e,h,_,g=>by rw [show H a=_ from e] at h;cases h;exact ⟨_,fR g (aB rfl) (λ z=>by cases z)⟩
 | .sm (.below _),_,e,h,_,g=>by rw [show H a=_ from e] at h;cases h;exact ⟨_,fR g (aB rfl) (λ z=>by cases z)⟩
 | .sm (.above _),_,e,h,_,g=>by rw [show H a=_ from e] at h;cases h;exact ⟨_,fR g (aB rfl) (λ z=>by cases z)⟩
 | .neg _,_,⟨_,e,_⟩,h,_,g=>by rw [e] at h;cases h;exact ⟨_,fR g (aB rfl) (λ z=>by cases z)⟩
 | .both q r,_,⟨b,c,e,h1,h2⟩,h,_,g=>by rw [e] at h;cases h;exact ⟨.both q r,b,c,g,h1,h2⟩
 | .either q r,_,⟨b,c,e,h1,h2⟩,h,_,g=>by rw [e] at h;cases h;exact ⟨.both q r,b,c,g,h1,h2⟩
theorem vD{q:QT}{xs:List V}(hq:QAt H a q)(ha:H a=some (.tup (.str q.wd::xs)))(hb:q.isBad=false)(hl:xs.length<=1000)(hj:j < words5.length)(h:H a'=some (.tup (.str words5[j]::xs))):∃ q',QAt H a' q':=by
 match j,hj,h with
 | 0,_,h=>exact ⟨_,jN rfl rfl h hl⟩
 | 1,_,h=>exact ⟨_,jN rfl rfl h hl⟩
 | 2,_,h=>exact zfO hq ha hb h
 | 3,_,h=>exact ⟨_,jN rfl rfl h hl⟩
 | 4,_,h=>exact ⟨_,jN rfl rfl h hl⟩
noncomputable def pE:Nat->Sp
 | 0=>λ _ _ _ _=>False
 | m+1=>λ vs H Q _=>∃ (a:Addr) (n:Int) (q:QT),vs=[.ref a,.int n]/\QAt H a q/\dB (m+1) q/\∀ a' q' H',Same H H'->QAt H' a' q'->Q (.ref a') H'
theorem sc_l_spoilt:aA ["_law_question_here", "_law_number", "_law_way"] ["_law_question_here", "_law_number"] (av ox):=by walk_at "sc"
theorem zc1{m:Nat}(T:Txt K mg t)(C__law_spoilt:Cal P w K mg base CX0 (1+m) "_law_spoilt" ["_law_question_here", "_law_number"] (pE m))(F:Fun K "_law_spoilt" "_law_spoilt" ox f fd):
  FnOk P w K mg base CX0 (1+m+1) f fd ["_law_question_here", "_law_number"] (pE (m+1)):=by
 refine F.ok sc_l_spoilt (λ vs H Q E h=>?_) (λ cdv A outer s H vs Q E hr h=>?_)
 ·obtain ⟨a,n,q,rfl,_⟩:=h;rfl
 ·obtain ⟨a,n,q,rfl,hq,hf,k⟩:=h;obtain ⟨xs,ha,hx,_⟩:=hq.tup;have hb:=yS hf;have cd:∀ {a b:Int},0 < b->b < 1073741824->jv a b:=λ h1 h2=>⟨h1,h2⟩
  refine ⟨_,(ak (aS (PW.pt (eY (aG (ja K) (aN (bL K) (pv 0) ae (λ _ _=>rfl)) (cp (aa aD (aa aD (aa aD ad)))) (by rfl)) (gb (aG dh (aj bF (pv 1) ae) ae (aF _))))) (ao (ay (aj (i9 K) (aj (i9 K) (dk (gc K) (pv 0) d9 (cL ae)) (cp (aa (C__law_spoilt.pe hr ax (aa (aN (bL K) (pv 0) ae (λ _ _=>rfl)) (aa (aj cC (pv 1) ae) ad)) (by omega)) ad))) (dk (gc K) (pv 0) (cL ae) d9))))
   aY)
  (ak (aE (i:=2) sc_l_spoilt.nd rfl (Or.inl rfl) (aj bF (aj cC (pv 1) ae) ae))
  (ak (aS (aG bM (pv 2) ae (aF _)) (ao (ay (aj (i9 K) (cp (aa (aN (bK K) (bS (aa aD (aa aD (aa aD (aa aD (aa aD ad)))))) (aj bF (aj cC (pv 1) ae) ae) (λ _ _=>rfl)) ad)) (dk (gc K) (pv 0) (cL ae) d9))))
   aY)
  (ak (aS (aG bM (pv 2) ae (aF _)) (ao (ay (aj (i9 K) (pv 0) (cp (aa (cp (aa aD ad)) ad)))))
   aY)
  (ao (ay (dj (PW.pt (eY (aG dh (aP (cr K) (by rfl) T.bE PyProof.Rows.Boot.«len» (aa (pv 0) ad)) ae (aF _)) (gb (aG bM (pv 2) ae (aF _))))) (dk (gc K) (pv 0) d9 (cL (dl dm ae))) (pv 0)))))))),?_⟩
  refine bH λ N1 hN1=>⟨_,rfl,a,_,_,_,rfl,rfl,SqT.of ha,bW (by decide) rfl,aB rfl,λ pt hpt=>⟨pt,_,rfl,.inr (SqT.of af),rfl,rfl,_,rfl,?_⟩⟩
  have s2:=Same.new (o:=.tup [.str "not", .str "both", .str "either"]) hpt;generalize upd H pt (.tup [.str "not", .str "both", .str "either"])=H2 at s2;show if inV (.str q.wd) [.str "not", .str "both", .str "either"]=true then _ else _
  rw [sv hb];have ha2:=s2 _ _ ha;have hq2:=hq.kt (bZ s2);have hN1:=hN1 [some (.ref a),some (.int n),none] H2 ?W
  case W=>
   clear hN1 N1 C__law_spoilt;refine bH λ N2 hN2=>⟨_,rfl,_,_,rfl,rfl,cd (by decide) (by decide),_,_,rfl,rfl,(by show (0:Int) < 4;decide),hN2 _ _ ?_⟩
   show eh _ _ _ [some (.ref a),some (.int n),some (.int (n / 3 % 4))] H2;generalize n / 3 % 4=way;clear hN2 N2;refine bH λ N3 hN3=>⟨_,rfl,rfl,_,rfl,?_⟩
   by_cases w0:V.int way=V.int 0
   ·rw [aO w0];obtain ⟨j,hj,ej⟩:∃ j:Nat,j < words5.length/\n / 12 % 5=j:=by
     have h1:=Int.emod_nonneg (n / 12) (b:=5) (by decide);have h2:=Int.emod_lt_of_pos (n / 12) (b:=5) (by decide);exact ⟨(n / 12 % 5).toNat,by show _ < 5;omega,by omega⟩
    refine aw ⟨aB rfl,λ l4 hl4=>⟨_,rfl,_,_,rfl,rfl,cd (by decide) (by decide),_,_,rfl,rfl,(by show (0:Int) < 5;decide),l4,words5.map V.str,_,.str words5[j],rfl,rfl,SqL.of af,?_,aB rfl,λ p5 hp5=>⟨_,rfl,1,rfl,a,_,rfl,SqT.of (Same.new hp5 _ _ (Same.new hl4 _ _ ha2)),fO _ _,λ p6 hp6=>?_⟩⟩⟩
    ·rw [ej];exact dG (by rw [aL,aH hj];rfl)
    rw [kJ];have s6:=az (o:=.tup xs) (az (o:=.tup [.str words5[j]]) (az (o:=.lst (words5.map V.str)) s2 hl4) hp5) hp6;have h5:(upd (upd (upd H2 l4 (.lst (words5.map V.str))) p5 (.tup [.str words5[j]])) p6 (.tup xs)) p5=some (.tup [.str words5[j]]):=Same.new hp6 _ _ af;have h6:(upd (upd (upd H2 l4 (.lst (words5.map V.str))) p5 (.tup [.str words5[j]])) p6 (.tup xs)) p6=some (.tup xs):=af;show kq K (.ref p5) (.ref p6) (upd (upd (upd H2 l4 (.lst (words5.map V.str))) p5 (.tup [.str words5[j]])) p6 (.tup xs)) _;generalize upd (upd (upd H2 l4 (.lst (words5.map V.str))) p5 (.tup [.str words5[j]])) p6 (.tup xs)=H6 at s6 h5 h6 ⊢;have hq6:=hq.kt (bZ s6);refine ⟨p5,p6,_,_,rfl,rfl,SqT.of h5,SqT.of h6,List.cons_ne_nil _ _,?_,λ z=>?_,λ _ p7 hp7=>?_⟩
    ·exact Nat.le_of_lt (small1000' (by show 1+xs.length<=10000;omega))
    ·subst z;obtain ⟨q',g⟩:=vD hq6 (s6 _ _ ha) hb hx hj h5;exact k p5 q' _ s6 g
    ·obtain ⟨q',g⟩:=vD (hq6.kt (bZ (Same.new hp7))) (Same.new hp7 _ _ (s6 _ _ ha)) hb hx hj af;exact k p7 q' _ (az s6 hp7) g
   rw [aM w0];refine ap (hN3 _ _ ?_);clear hN3 N3;refine bH λ N4 hN4=>⟨_,rfl,rfl,_,rfl,?_⟩
   by_cases w1:V.int way=V.int 1
   ·rw [aO w1];refine aw ⟨_,rfl,aB rfl,λ p5 hp5=>⟨aB rfl,λ p6 hp6=>⟨a,p6,_,_,rfl,rfl,SqT.of (Same.new hp6 _ _ (Same.new hp5 _ _ ha2)),SqT.of af,List.cons_ne_nil _ _,?_,λ z=>(by cases z),λ _ p7 hp7=>?_⟩⟩⟩
    ·exact Nat.le_of_lt (small1000' (by show xs.length+1+1<=10000;omega))
    ·have s7:=az (o:=.tup (.str q.wd::xs++[.ref p5])) (az (o:=.tup [.ref p5]) (az (o:=.tup [.str "all"]) s2 hp5) hp6) hp7;refine k p7 (.bad q.wd (xs++[.ref p5])) _ s7 (qA hq ha hb af ?_ ?_)
     ·rw [bc];exact Nat.le_trans (Nat.succ_le_succ (yQ hq ha hb)) (by decide)
     ·rw [bc];show xs.length+1≠_;omega
   rw [aM w1];refine ap (hN4 _ _ ?_);clear hN4 N4;refine ⟨_,rfl,a,_,rfl,.inr (SqT.of ha2),_,_,rfl,rfl,_,rfl,?_⟩;cases xs with
   | nil=>exact ap (ap ⟨_,rfl,k a q H2 s2 hq2⟩)
   | cons y r=>
    rw [aO (show (1:Int) < (((V.str q.wd::y::r).length:Nat):Int) by rw [List.length_cons,List.length_cons];omega)];refine aw ⟨_,rfl,rfl,_,rfl,?_⟩;by_cases w2:V.int way=V.int 2
    ·rw [aO w2];refine aw ⟨_,rfl,1,rfl,_,rfl,a,_,rfl,SqT.of ha2,zP _ _ _,λ p hp=>?_⟩;rw [show bw (V.str q.wd::y::r) none (some (-1))=_ from zO _ _ _];refine k p (.bad q.wd (y::r).dropLast) _ (az s2 hp) (qA hq ha hb af ?_ ?_)
     ·rw [List.length_dropLast];exact Nat.le_trans (Nat.sub_le ..) hx
     ·rw [List.length_dropLast,List.length_cons];omega
    ·rw [aM w2];exact ap ⟨_,rfl,k a q H2 s2 hq2⟩
  cases hj:q.jn with
  | false=>exact ap hN1
  | true=>
   refine aw ⟨_,rfl,_,_,rfl,rfl,(by show (0:Int) < 3;decide),_,_,rfl,rfl,_,rfl,?_⟩;by_cases hn3:0 < n % 3
   ·rw [aO hn3];obtain ⟨bs,hb2,hbl,hbn,_,hbq⟩:=hq2.parts hj;rw [ha2] at hb2;cases hb2;obtain ⟨p0,pr,hp0,hf0⟩:=yT hf hj;obtain ⟨b0,br,rfl⟩:∃ b0 br,bs=b0::br:=by
     cases bs with
     | nil=>rw [hp0] at hbl;cases hbl
     | cons x y=>exact ⟨x,y,rfl⟩
    obtain ⟨m,rfl⟩:∃ m',m=m' + 1:=by
     cases m with
     | zero=>exact hf0.elim
     | succ m=>exact ⟨m,rfl⟩
    have hbr:br.length<=1:=Nat.le_of_succ_le_succ hbn;have hqb:=hbq 0 b0 p0 rfl (by rw [hp0];rfl);refine aw ⟨_,rfl,1,rfl,a,_,rfl,SqT.of ha2,zdy _ _ _,λ p3 hp3=>?_⟩;rw [show bw (V.str q.wd::(b0::br).map V.ref) none (some 1)=[V.str q.wd] from yu _ _ _];have s3:=Same.new (o:=.tup [.str q.wd]) hp3;have h3:(upd H2 p3 (.tup [.str q.wd])) p3=some (.tup [.str q.wd]):=af;show vO _ _ (upd H2 p3 (.tup [.str q.wd])) _;generalize upd H2 p3 (.tup [.str q.wd])=H3 at s3 h3 ⊢;refine ⟨_,rfl,a,_,_,_,rfl,rfl,SqT.of (s3 _ _ ha2),bW (by decide) rfl,_,rfl,_,_,rfl,rfl,cd (by decide) (by decide),b0,_,p0,rfl,hqb.kt (bZ s3),hf0,λ c q' H4 s4 g=>⟨aB rfl,λ p5 hp5=>?_⟩⟩;have s5:=Same.new (o:=.tup [.ref c]) hp5;refine ⟨p3,p5,_,_,rfl,rfl,SqT.of (s5 _ _ (s4 _ _ h3)),SqT.of af,List.cons_ne_nil _ _,aB rfl,λ z=>(by cases z),λ _ p6 hp6=>?_⟩;have s6:=az (o:=.tup ([.str q.wd]++[.ref c])) s5 hp6;have h6:(upd (upd H4 p5 (.tup [.ref c])) p6 (.tup ([.str q.wd]++[.ref c]))) p6=some (.tup [.str q.wd,.ref c]):=af;show tSl _ _ _ _ _ (upd (upd H4 p5 (.tup [.ref c])) p6 (.tup ([.str q.wd]++[.ref c]))) _;generalize upd (upd H4 p5 (.tup [.ref c])) p6 (.tup ([.str q.wd]++[.ref c]))=H6 at s6 h6 ⊢;have t6:Same H2 H6:=s3.trans (s4.trans s6);have ha6:=t6 _ _ ha2;refine ⟨_,rfl,2,rfl,a,_,rfl,SqT.of ha6,zgH _ _ _,λ p7 hp7=>?_⟩;rw [show bw (V.str q.wd::(b0::br).map V.ref) (some 2) none=br.map V.ref from yt _ _ _];have s7:=Same.new (o:=.tup (br.map V.ref)) hp7;have h7:(upd H6 p7 (.tup (br.map V.ref))) p7=some (.tup (br.map V.ref)):=af;show kq _ _ _ (upd H6 p7 (.tup (br.map V.ref))) _;generalize upd H6 p7 (.tup (br.map V.ref))=H7 at s7 h7 ⊢;have t7:=t6.trans s7;have g7:=g.kt (bZ (s6.trans s7));refine ⟨p6,p7,_,_,rfl,rfl,SqT.of (s7 _ _ h6),SqT.of h7,List.cons_ne_nil _ _,?_,λ z=>?_,λ _ p8 hp8=>?_⟩
    ·rw [ag];exact Nat.le_of_lt (a9 (by show 2+br.length<=1000;omega))
    ·obtain ⟨q2,g2⟩:=uf g7 (hq2.kt (bZ t7)) (t7 _ _ ha2) hj (p:=p6) (by
      rw [List.map_eq_nil_iff.mp z];exact s7 _ _ h6)
     exact k p6 q2 H7 (s2.trans t7) g2
    ·have s8:=Same.new (o:=.tup ([.str q.wd,.ref c]++br.map V.ref)) hp8;obtain ⟨q2,g2⟩:=uf (g7.kt (bZ s8)) ((hq2.kt (bZ t7)).kt (bZ s8)) (s8 _ _ (t7 _ _ ha2)) hj (p:=p8) af;exact k p8 q2 _ ((s2.trans t7).trans s8) g2
   ·rw [aM hn3];exact ap hN1
noncomputable def vf(t:Ad):Sp:=λ vs H Q _=>(vs=[.non]/\Q (.str "ok") H)\/∃ (a C:Addr) (z:Str),vs=[.ref a]/\H a=some (dQ a (.ref C))/\((C=t.bx/\z = "question"))/\∀ H',Same H H'->Q (.str z) H'
theorem zZ{c:Nat}{A B:Prop}(h:c=1)(hB:B):if (!decide (V.int (c:Int)=V.int 1))=true then A else B:=by
 subst h;exact hB
theorem sc_l_refusal:aA ["_law_kept", "_law_kinds"] ["_law_kept"] (av ow):=by walk_at "sc"
theorem zcR(T:Txt K mg t)(F:Fun K "_law_refusal" "_law_refusal" ow f fd):FnOk P w K mg base CX0 1 f fd ["_law_kept"] (vf t):=by
 refine F.ok sc_l_refusal (λ vs H Q E h=>?_) (λ cdv A outer s H vs Q E hr h=>?_)
 ·rcases h with ⟨rfl,_⟩ | ⟨a,C,z,rfl,_⟩ <;> rfl
 ·refine ⟨_,(ak (aS (aG d5 (pv 0) bN (aF _)) (ao (ay aD))
   aY)
  (ak (aE (i:=1) sc_l_refusal.nd rfl (Or.inl rfl) (bS (aa (aP (dr K) (by rfl) T.dE PyProof.Rows.Boot.«isinstance» (aa (pv 0) (aa (di T.mh) ad))) (aa (aP (dr K) (by rfl) T.dE PyProof.Rows.Boot.«isinstance» (aa (pv 0) (aa (di T.hU) ad))) (aa (aP (dr K) (by rfl) T.dE PyProof.Rows.Boot.«isinstance» (aa (pv 0) (aa (di T.yZ) ad))) ad)))))
  (ak (aE (i:=1) sc_l_refusal.nd rfl (Or.inl rfl) (aj ir (pv 1) (bS (aa (aP (dr K) (by rfl) T.dE PyProof.Rows.Boot.«isinstance» (aa (pv 0) (aa (di T.y0) ad))) (aa (aP (dr K) (by rfl) T.dE PyProof.Rows.Boot.«isinstance» (aa (pv 0) (aa (di T.mi) ad))) (aa (aP (dr K) (by rfl) T.dE PyProof.Rows.Boot.«isinstance» (aa (pv 0) (aa (di T.y4) ad))) ad))))))
  (ak (aE (i:=1) sc_l_refusal.nd rfl (Or.inl rfl) (aj ir (pv 1) (bS (aa (aP (dr K) (by rfl) T.dE PyProof.Rows.Boot.«isinstance» (aa (pv 0) (aa (di T.ml) ad))) (aa (aP (dr K) (by rfl) T.dE PyProof.Rows.Boot.«isinstance» (aa (pv 0) (aa (di T.y6) ad))) ad)))))
  (ak (aS (PW.pt (eZ (aG fD (cD K PySem.F.plainAttrs_list PySem.F.slot_list_count PySem.F.type_list_count zbj (pv 1) (aa eV ad)) ae (aF _)) (fL (ef (c9 (aP (dr K) (by rfl) T.dE PyProof.Rows.Boot.«isinstance» (aa (pv 0) (aa (ix T.zbr PyProof.Rows.Boot.«ValueError») ad)))))))) (ao (ay aD))
   aY)
  (ao (ay (aN (bK K) (bS (aa aD (aa aD (aa aD (aa aD (aa aD (aa aD (aa aD (aa aD ad))))))))) (cD K PySem.F.plainAttrs_list PySem.F.slot_list_index PySem.F.type_list_index sW (pv 1) (aa eV ad)) (λ _ _=>rfl))))))))),?_⟩
  rcases h with ⟨rfl,q⟩ | ⟨a,C,z,rfl,hA,hC,q1⟩
  ·exact ⟨_,rfl,rfl,_,rfl,aw q⟩
  refine ⟨_,rfl,rfl,_,rfl,ap ?_⟩;obtain ⟨b0,b1,b2,b3,b4,b5,b6,b7,j,k0,k1,k2,k3,k4,k5,k6,k7,kC,kv,hc,hj,hm,hw⟩:∃ (b0 b1 b2 b3 b4 b5 b6 b7:Bool) (j:Nat),W.kitOne K (.ref C) (.ref t.fm)=some b0/\W.kitOne K (.ref C) (.ref t.bx)=some b1/\W.kitOne K (.ref C) (.ref t.g0)=some b2/\W.kitOne K (.ref C) (.ref t.g8)=some b3/\W.kitOne K (.ref C) (.ref t.de)=some b4/\W.kitOne K (.ref C) (.ref t.g9)=some b5/\W.kitOne K (.ref C) (.ref t.eB)=some b6/\W.kitOne K (.ref C) (.ref t.hG)=some b7/\gi K C/\W.kitOne K (.ref C) (.type "ValueError")=some true/\([.bl b0,.bl b1,.bl b2,.bl b3,.bl b4,.bl b5,.bl b6,.bl b7]:List V).countP (λ z=>eqV z (.bl true))=1/\([.bl b0,.bl b1,.bl b2,.bl b3,.bl b4,.bl b5,.bl b6,.bl b7]:List V)[j]?=some (.bl true)/\(∀ m z,m < j->([.bl b0,.bl b1,.bl b2,.bl b3,.bl b4,.bl b5,.bl b6,.bl b7]:List V)[m]?=some z->eqV z (.bl true)=false)/\([.str "bits", .str "question", .str "row", .str "table", .str "value", .str "column", .str "packing", .str "norow"]:List V)[j]?=some (.str z):=by
   obtain ⟨rfl,rfl⟩:=hC
   ·exact ⟨_,_,_,_,_,_,_,_,1,T.zu,T.zw,T.zx,T.zy,T.zA,T.zB,T.zC,T.zD,T.z8,T.zgM,rfl,rfl,λ m z hm hz=>match m,hm with | 0,_=>by cases hz;rfl,rfl⟩
  have g:∀ {H' D b},H' a=some (dQ a (.ref C))->W.kitOne K (.ref C) (.ref D)=some b->gP K H' (.ref a) (.ref D) b:=λ h e=>zV h kC e;refine ⟨_,rfl,_,_,_,rfl,g hA k0,_,rfl,_,_,_,rfl,g hA k1,_,rfl,_,_,_,rfl,g hA k2,aB rfl,λ l1 hl1=>?_⟩;have s1:=Same.new (o:=.lst [.bl b0,.bl b1,.bl b2]) hl1;have h1:=s1 _ _ hA;refine ⟨_,rfl,_,rfl,_,_,_,rfl,g h1 k3,_,rfl,_,_,_,rfl,g h1 k4,_,rfl,_,_,_,rfl,g h1 k5,aB rfl,λ l2 hl2=>?_⟩;have n12:l1≠l2:=aK af hl2;refine ⟨l1,l2,_,_,rfl,rfl,by rw [ai n12];exact af,af,aB rfl,λ l3 hl3=>?_⟩;have s3:Same H (upd (upd (upd H l1 (.lst [.bl b0,.bl b1,.bl b2])) l2 (.lst [.bl b3,.bl b4,.bl b5])) l3 (.lst [.bl b0,.bl b1,.bl b2,.bl b3,.bl b4,.bl b5])):=az (az s1 hl2) hl3;have h3:=s3 _ _ hA;refine ⟨_,rfl,_,rfl,_,_,_,rfl,g h3 k6,_,rfl,_,_,_,rfl,g h3 k7,aB rfl,λ l4 hl4=>?_⟩;have n34:l3≠l4:=aK af hl4;refine ⟨l3,l4,_,_,rfl,rfl,by rw [ai n34];exact af,af,aB rfl,λ l5 hl5=>?_⟩;have s5:=az (o:=.lst [.bl b0,.bl b1,.bl b2,.bl b3,.bl b4,.bl b5,.bl b6,.bl b7]) (az (o:=.lst [.bl b6,.bl b7]) s3 hl4) hl5;have h5:=s5 _ _ hA;refine ⟨_,rfl,.inl ⟨rfl,_,SqL.of af⟩,l5,_,_,rfl,rfl,af,rfl,rfl,rfl,_,rfl,?_⟩;refine zZ hc ⟨_,rfl,_,_,_,rfl,zW h5 kC kv,_,rfl,ap ⟨aB rfl,λ l6 hl6=>?_⟩⟩;have n56:l5≠l6:=aK af hl6;exact ⟨_,rfl,.inl ⟨rfl,_,SqL.of (by rw [ai n56];exact af)⟩,l5,_,_,j,rfl,rfl,by rw [ai n56];exact af,rfl,rfl,⟨.bl true,hj,rfl⟩,hm,l6,_,_,_,rfl,rfl,SqL.of af,dG hw,q1 _ (az s5 hl6)⟩
noncomputable def vn(t:Ad):Sp:=λ vs H Q _=>∃ (c a:Addr) (n:Int) (q:QT) (xs:List OI),vs=[.ref c,.int n,.ref a]/\ColAt t.bv H c xs/\okC xs=true/\QAt H a q/\Tbs t H/\
 (okQ 1 q=true->∀ H',Sb2 t H H'->Tbs t H'->Q (.str "ok") H')/\(okQ 1 q=false->∀ H',Sb2 t H H'->Tbs t H'->Q (.str "question") H')
theorem sc_l_told:aA ["_law_column", "_law_way", "_law_question_here", "_law_kept", "e"] ["_law_column", "_law_way", "_law_question_here"] (av oy):=by walk_at "sc"
theorem zc0(T:Txt K mg t)(CR:bB P w K mg base (CXr P w) 15 t.bv "rows" ["self", "question"] (spA t uq))(CM:bB P w K mg base (CXr P w) 15 t.bv "how_many" ["self", "question"] (spA t ul))(CS:bB P w K mg base (CXr P w) 16 t.bv "total" ["self", "question"] (spA t uu))(CE:bB P w K mg base (CXr P w) 16 t.bv "ends" ["self", "question"] (spA t ui))(C__law_refusal:Cal P w K mg base CX0 1 "_law_refusal" ["_law_kept"] (vf t))(F:Fun K "_law_told" "_law_told" oy f fd):FnOk P w K mg base CX0 17 f fd ["_law_column", "_law_way", "_law_question_here"] (vn t):=by
 obtain ⟨zhb,zhl,xa,zaT,xI⟩:=CR;obtain ⟨zg8,zhi,w5,zaP,xF⟩:=CM;obtain ⟨f_total,zhn,xc,zaV,xK⟩:=CS;obtain ⟨zg6,zhg,wY,zaN,xD⟩:=CE;refine F.ok sc_l_told (λ vs H Q E h=>?_) (λ cdv A outer s H vs Q E hr h=>?_)
 ·obtain ⟨c,a,n,q,xs,rfl,_⟩:=h;rfl
 ·obtain ⟨c,a,n,q,xs,rfl,⟨dx,hC⟩,ok,hq,hT,k1,k2⟩:=h;refine ⟨_,(ak (aE (i:=3) sc_l_told.nd rfl (Or.inl rfl) bN)
  (ak (zeh rfl rfl rfl sc_l_told.nd (i:=4) rfl rfl (by rfl) T.y9
   (λ pn xe E hE=>(ao (aS (aG bM (pv 1) ae (aF _)) (ao (bV (bU (pv 0) T.eA zaT xa (hr.mono (by decide)) xI .nil hE (aa (pv 2) ad))))
   (ao (aS (aG bM (pv 1) ae (aF _)) (ao (bV (bU (pv 0) T.eA zaP w5 (hr.mono (by decide)) xF .nil hE (aa (pv 2) ad))))
   (ao (aS (aG bM (pv 1) ae (aF _)) (ao (bV (bU (pv 0) T.eA zaV xc (hr.mono (by decide)) xK .nil hE (aa (pv 2) ad))))
   (ao (bV (bU (pv 0) T.eA zaN wY (hr.mono (by decide)) xD .nil hE (aa (pv 2) ad))))))))))) (λ a=>(ao (aE (i:=3) sc_l_told.nd rfl (Or.inl rfl) (pv 4)))))
  (ao (ay (C__law_refusal.pe hr ax (aa (pv 3) ad)))))),?_⟩
  refine bH λ N0 hN0=>hN0 _ _ ?_;clear hN0 N0;refine bH λ N hN=>?_;have d1:okQ 1 q=true->∀ (H':Hp),Sb2 t H H'->Tbs t H'->N [some (.ref c),some (.int n),some (.ref a),some .non,none] H':=λ z H' sb hT'=>hN _ _ ⟨_,rfl,.inl ⟨rfl,k1 z H' sb hT'⟩⟩;have d2:okQ 1 q=false->∀ (H':Hp),Sb2 t H H'->Tbs t H'->W.exmOne K (.ref t.bx) (.ref t.hJ)=some true/\∀ b,H' b=none->gF (b8 4) (dC 3) { nx:=λ σ2 H2=>N (σ2.set 4 none) H2,rt:=Q } ((List.replicate 5 none).set 4 (some (.ref b))) (upd H' b (dQ b (.ref t.bx))):=
   λ z H' sb hT'=>⟨T.zaz,λ b hb=>⟨_,rfl,hN _ _ ⟨_,rfl,.inr ⟨b,t.bx, "question", rfl,af,⟨rfl,rfl⟩,λ H'' s2=>k2 z H'' (sb.same ((Same.new hb).trans s2)) (hT'.same ((Same.new hb).trans s2))⟩⟩⟩⟩
  refine ⟨_,rfl,rfl,_,rfl,?_⟩;by_cases w0:V.int n=V.int 0
  ·rw [aO w0];exact aw ⟨_,rfl,c,dx,_,rfl,hC,rfl,_,rfl,c,a,q,xs,rfl,⟨dx,hC⟩,ok,hq,hT,λ z v H' sb hT' _=>d1 z H' sb hT',d2⟩
  rw [aM w0];refine ap ⟨_,rfl,rfl,_,rfl,?_⟩;by_cases w1:V.int n=V.int 1
  ·rw [aO w1];exact aw ⟨_,rfl,c,dx,_,rfl,hC,rfl,_,rfl,c,a,q,xs,rfl,⟨dx,hC⟩,ok,hq,hT,λ z v H' sb hT' _=>d1 z H' sb hT',d2⟩
  rw [aM w1];refine ap ⟨_,rfl,rfl,_,rfl,?_⟩;by_cases w2:V.int n=V.int 2
  ·rw [aO w2];exact aw ⟨_,rfl,c,dx,_,rfl,hC,rfl,_,rfl,c,a,q,xs,rfl,⟨dx,hC⟩,ok,hq,hT,λ z v H' sb hT' _=>d1 z H' sb hT',d2⟩
  rw [aM w2];exact ap ⟨_,rfl,c,dx,_,rfl,hC,rfl,_,rfl,c,a,q,xs,rfl,⟨dx,hC⟩,ok,hq,hT,λ z v H' sb hT' _=>d1 z H' sb hT',d2⟩
noncomputable def kB(K:W.Frag)(ts:List Addr):Sp:=λ vs H Q _=>∃ (a:Addr) (ns:List Int),vs=[.ref a]/\SqL K H a (ns.map V.int)/\ns.length<=63/\lF H ts/\∀ H',Q (.bl true) H'
theorem zN(h:inV (.str x) [.str "both", .str "not"]=true):x = "both" \/ x = "not" := by
 have:Str.ofString "both" = x\/Str.ofString "not" = x:=by simpa [inV,eqV] using h
 exact this.imp Eq.symm Eq.symm
theorem xL(h:x = "both" \/ x = "not")(hp:H p=some (.tup [.str x])):QAt H p (.bad x []):=by
 rcases h with rfl | rfl
 ·exact fR hp (Nat.zero_le _) (λ z=>by cases z)
 ·refine ⟨hp,Nat.zero_le _,λ z=>?_,λ z=>?_⟩
  ·have:(2:Int)=((0+1:Nat):Int):=V.int.inj (Option.some.inj (show some (V.int 2)=some (V.int (0+1:Nat)) from z));omega
  ·have e:JL.lookup (Str.ofString "not")=some (V.int 2):=rfl;rw [e] at z;cases z
theorem zeP(x:Str):dY [.str x,.str x,.str x,.str x] [.str x,.str x,.str x,.str x]=true:=by
 simp [dY,eqV]
theorem zbL:(["_law_way", "_law_column", "_law_question_here"]:List Str).Nodup:=by decide +kernel
theorem sc_law:aA ["_law_script", "_law_values_here", "_law_question_here", "_law_number", "_law_k", "_law_due", "_law_column"] ["_law_script"] (av gC):=by walk_at "sc"
theorem zcU(T:Txt K mg t)(C__law_values:Cal P w K mg base CX0 5 "_law_values" ["_law_script", "_law_k", "_law_most"] (vi K))(C__law_mix:Cal P w K mg base CX0 3 "_law_mix" ["_law_script", "_law_k"] (jo K))(C__law_question:Cal P w K mg base CX0 6 "_law_question" ["_law_script", "_law_k", "_law_values_here", "_law_deep"] (pD K 3))(C__law_spoilt:Cal P w K mg base CX0 4 "_law_spoilt" ["_law_question_here", "_law_number"] (pE 3))(C__law_good:Cal P w K mg base CX0 8 "_law_good" ["_law_question_here", "_law_deep"] (pC 7))(CI:iJ P w K mg base (CXr P w) 10 t.bv ["self", "values"] (uQ K t))(C__law_told:Cal P w K mg base CX0 17 "_law_told" ["_law_column", "_law_way", "_law_question_here"] (vn t))(F:Fun K "law" "law" gC f fd):FnOk P w K mg base CX0 18 f fd ["_law_script"] (kB K [t.p_check_question_of,t.p_marked_values]):=by
 obtain ⟨zg3,zhd,wV,zaK,xA⟩:=CI;refine F.ok sc_law (λ vs H Q E h=>?_) (λ cdv A outer s H vs Q E hr h=>?_)
 ·obtain ⟨a,ns,rfl,_⟩:=h;rfl
 ·obtain ⟨p,ns,rfl,hS,hl,hZ,q⟩:=h;have hu:=fu hr;have hT:Tbs t H:=⟨⟨#[],hZ _ (.head _),trivial,.inl rfl⟩,#[],hZ _ (.tail _ (.head _)),trivial,.inl rfl⟩
  refine ⟨_,(ak (aE (i:=1) sc_law.nd rfl (Or.inl rfl) (C__law_values.pe hr ax (aa (pv 0) (aa ae (aa ae ad)))))
  (ak (aE (i:=2) sc_law.nd rfl (Or.inr rfl) (C__law_question.pe hr ax (aa (pv 0) (aa ae (aa (pv 1) (aa ae ad))))))
  (ak (aE (i:=3) sc_law.nd rfl (Or.inl rfl) (C__law_mix.pe hr ax (aa (pv 0) (aa ae ad))))
  (ak (aS (aG bM (aj bF (pv 3) ae) ae (aF _)) (ao (fK PassesOwn.never rfl (eX (by rfl) T.d4 (aa (aj a8 ae (aj bF (aj cC (pv 3) ae) ae)) ad)) (aR (i:=4) sc_law.nd rfl (Or.inl rfl))
   (ao (aE (i:=2) sc_law.nd rfl (Or.inr rfl) (dj (aG bM (aj bF (aj cC (pv 3) ae) ae) ae (aF _)) (cp (aa aD (aa (pv 2) ad))) (cp (aa aD (aa (cp (aa aD ad)) (aa (pv 2) ad)))))))))
   aY)
  (ak (aS (aG bM (aj bF (pv 3) ae) ae (aF _)) (ak (aE (i:=2) sc_law.nd rfl (Or.inr rfl) (C__law_spoilt.pe hr ax (aa (pv 2) (aa (C__law_mix.pe hr ax (aa (pv 0) (aa ae ad))) ad))))
  (ao (aS (PW.pt (eY (aG (ja K) (aN (bL K) (pv 2) ae (λ _ _=>rfl)) (cp (aa aD (aa aD ad))) (by rfl)) (gb (ef (c9 (C__law_good.pe hr ax (aa (pv 2) (aa ae ad)))))))) (ao (aE (i:=2) sc_law.nd rfl (Or.inr rfl) (cp (aa (aN (bL K) (pv 2) ae (λ _ _=>rfl)) ad))))
   aY)))
   aY)
  (ak (aE (i:=5) sc_law.nd rfl (Or.inl rfl) (dj (c9 (C__law_good.pe hr ax (aa (pv 2) (aa ae ad)))) aD aD))
  (ak (aE (i:=6) sc_law.nd rfl (Or.inr rfl) (tW zaK wV (hr.mono (by decide)) rfl T.y3 xA .nil cU (aa (pv 1) ad)))
  (ao (ay (fE (zdC K hu) (bX (N:=["_law_way", "_law_column", "_law_question_here"]) (fr:=[none,some 6,some 2]) ⟨rfl,rfl,rfl,rfl,rfl,rfl⟩ rfl (eX (by rfl) T.d4 (aa ae ad))
    (λ C fp s H=>⟨aR (i:=0) zbL rfl (Or.inl rfl),bz,(C__law_told.pe hr ax (aa (pv 1) (aa (pv 0) (aa (pv 2) ad))))⟩)) (aj mS (bS (aa (pv 5) ad)) ae) (aF _))))))))))),?_⟩
  refine bH λ N0 hN0=>⟨_,rfl,p,ns,0,6,rfl,hS,by decide,λ v H1 xs s1 hv hv1 hx ok=>hN0 _ _ ?_⟩
  clear hN0 N0;have cd:∀ {a b:Int},0 < b->b < 1073741824->jv a b:=λ h1 h2=>⟨h1,h2⟩
  refine bH λ N0 hN0=>⟨_,rfl,_,rfl,p,v,ns,60,xs,3,rfl,s1.seq hS,hv1,by omega,by decide,by decide,λ a qq H2 s2 hq hf=>hN0 _ _ ?_⟩
  clear hN0 N0;have t2:=s1.trans s2;have hv2:=s2 _ _ hv1;refine bH λ N0 hN0=>⟨_,rfl,p,ns,58,rfl,t2.seq hS,hN0 _ _ ?_⟩
  clear hN0 N0;show eh _ _ _ [some (.ref p),some (.ref v),some (.ref a),some (.int (mix ns 58)),none,none,none] H2;generalize mix ns 58=n;refine bH λ N1 hN1=>?_;have R1:∀ (b:Addr) (q':QT) (vk:Option V) (H3:Hp),Same H H3->H3 v=some (.lst (xs.map ov))->QAt H3 b q'->(V.int (n % 3)=V.int 1->dB 3 q')->N1 [some (.ref p),some (.ref v),some (.ref b),some (.int n),vk,none,none] H3:=λ b q' vk H3 t3 hv3 hq3 hf3=>hN1 _ _ ?A
  case A=>
   clear hN1 N1;refine bH λ N2 hN2=>?_;have R2:∀ (b:Addr) (q':QT) (H4:Hp),Same H H4->H4 v=some (.lst (xs.map ov))->QAt H4 b q'->N2 [some (.ref p),some (.ref v),some (.ref b),some (.int n),vk,none,none] H4:=λ b q' H4 t4 hv4 hq4=>hN2 _ _ ?B
   case B=>
    clear hN2 N2;have okc:okC xs=true:=zcg (by omega) ok;refine bH λ N3 hN3=>⟨_,rfl,b,1,q',rfl,hq4,by decide,λ H5 s5=>⟨_,rfl,?_⟩⟩
    have R3:∀ due:Str,(okQ 1 q'=true->due = "ok")->(okQ 1 q'=false->due = "question")->N3 [some (.ref p),some (.ref v),some (.ref b),some (.int n),vk,some (.str due),none] H5:=λ due hd1 hd2=>hN3 _ _ ?C
    case C=>
     clear hN3 N3;have hv5:=s5 _ _ hv4;have hq5:=hq4.kt (bZ s5);have hT5:=hT.same (t4.trans s5);refine bH λ N4 hN4=>⟨_,rfl,λ x dx hx' hdx nx=>⟨x,dx,v,xs,rfl,af,SqL.of ?_,by omega,λ _ H6 hC kp=>⟨rfl,hN4 _ _ ?_⟩,λ z=>absurd okc (by rw [z];exact bi)⟩⟩
     ·rw [ai (aK hv5 hx'),ai (aK hv5 hdx)];exact hv5
     have s6:Same H5 H6:=λ b o e=>kp b o (aK e hx') (by rw [ai (aK e hx'),ai (aK e hdx)];exact e);clear hN4 N4;have hq6:=hq5.kt (bZ s6);have hT6:=hT5.same s6;refine ⟨4,rfl,by decide,by decide,⟨gq (n:=4) (λ i acc H'=>acc=List.replicate i (V.str due)/\Sb2 t H6 H'/\Tbs t H') ⟨rfl,λ b o _ _ e=>e,hT6⟩ ?_ (aB rfl) ?_ ?_⟩⟩
     ·rintro i acc H' hi ⟨rfl,_⟩;rw [List.length_replicate];exact Nat.le_refl _
     ·rintro i acc H' hi ⟨rfl,sb,hT'⟩;have k6:=sb.kt hT6;obtain ⟨dy,hC⟩:=hC;refine ⟨Wk.set rfl,tT ⟨_,rfl,_,rfl,_,rfl,x,b,0+(i:Int),q',xs,rfl,⟨dy,k6.ins hC⟩,okc,hq6.kt k6,hT',λ z H7 sb7 hT7=>cw hi ⟨?_,sb.trans sb7,hT7⟩,λ z H7 sb7 hT7=>cw hi ⟨?_,sb.trans sb7,hT7⟩⟩⟩
      ·rw [List.replicate_succ',hd1 z]
      ·rw [List.replicate_succ',hd2 z]
     ·rintro acc H' ⟨rfl,sb,hT'⟩ p9 hp9;refine ⟨_,rfl,aB rfl,λ l2 hl2=>⟨l2,4,_,rfl,rfl,af,by decide,by decide,aB rfl,λ l3 hl3=>⟨p9,l3,_,_,rfl,rfl,SqL.of (Same.new hl3 _ _ (Same.new hl2 _ _ af)),SqL.of af,rfl,rfl,?_⟩⟩⟩;show Q (.bl (dY [.str due,.str due,.str due,.str due] [.str due,.str due,.str due,.str due])) _;rw [zeP];exact q _
    cases e:okQ 1 q' with
    | true=>exact aw (R3 "ok" (λ _=>rfl) λ z=>by rw [e] at z;cases z)
    | false=>exact ap (R3 "question" (λ z=>by rw [e] at z;cases z) λ _=>rfl)
   refine ⟨_,rfl,_,_,rfl,rfl,(by show (0:Int) < 3;decide),rfl,_,rfl,?_⟩;by_cases n1:V.int (n % 3)=V.int 1
   ·rw [aO n1];refine aw (bH λ N3 hN3=>⟨_,rfl,_,rfl,p,ns,59,rfl,t3.seq hS,b,mix ns 59,q',rfl,hq3,hf3 n1,λ b' q2 H4 s4 hq4=>hN3 _ _ ?_⟩);clear hN3 N3;obtain ⟨ys,hb4,hy,_⟩:=hq4.tup;refine ⟨_,rfl,b',_,_,_,rfl,rfl,SqT.of hb4,bW (by decide) rfl,aB rfl,λ pt hpt=>⟨pt,_,rfl,.inr (SqT.of af),rfl,rfl,_,rfl,?_⟩⟩;have s5:=s4.trans (Same.new (o:=.tup [.str "both", .str "not"]) hpt);have hq5:=hq4.kt (bZ (Same.new (o:=.tup [.str "both", .str "not"]) hpt));have hb5:=Same.new (o:=.tup [.str "both", .str "not"]) hpt _ _ hb4;generalize upd H4 pt (.tup [.str "both", .str "not"])=H5 at s5 hq5 hb5;show if inV (.str q2.wd) [.str "both", .str "not"]=true then _ else _
    cases hin:inV (.str q2.wd) [.str "both", .str "not"] with
    | false=>exact ap (ap (R2 b' q2 H5 (t3.trans s5) (s5 _ _ hv3) hq5))
    | true=>
     refine aw ⟨_,rfl,b',1,q2,rfl,hq5,by decide,λ H6 s6=>⟨_,rfl,?_⟩⟩;have t6:=(t3.trans s5).trans s6;cases okQ 1 q2 with
     | true=>exact ap (R2 b' q2 H6 t6 (s6 _ _ (s5 _ _ hv3)) (hq5.kt (bZ s6)))
     | false=>exact aw ⟨_,rfl,b',_,_,_,rfl,rfl,SqT.of (s6 _ _ hb5),bW (by decide) rfl,aB rfl,λ p7 hp7=>R2 p7 (.bad q2.wd []) _ (az t6 hp7) (Same.new hp7 _ _ (s6 _ _ (s5 _ _ hv3))) (xL (zN hin) af)⟩
   ·rw [aM n1];exact ap (R2 b q' H3 t3 hv3 hq3)
  refine ⟨_,rfl,_,_,rfl,rfl,(by show (0:Int) < 3;decide),rfl,_,rfl,?_⟩;by_cases n0:V.int (n % 3)=V.int 0
  ·rw [aO n0];have m0:=Int.emod_nonneg (n / 3) (b:=4) (by decide);have m1:=Int.emod_lt_of_pos (n / 3) (b:=4) (by decide);refine aw ⟨_,rfl,_,_,rfl,rfl,cd (by decide) (by decide),_,_,rfl,rfl,(by show (0:Int) < 4;decide),_,_,rfl,rfl,_,rfl,by show -2 ^ 62<=4+n / 3 % 4;omega,by show 4+n / 3 % 4 < 2 ^ 62;omega,⟨jW (λ i σ H'=>∃ (b:Addr) (q':QT) (vk:Option V),σ=[some (.ref p),some (.ref v),some (.ref b),some (.int n),vk,none,none]/\Same H H'/\H' v=some (.lst (xs.map ov))/\QAt H' b q') ⟨a,qq,none,rfl,t2,hv2,hq⟩ ?_ ?_⟩⟩
   ·rintro i σ H3 hi ⟨b,q',vk,rfl,t3,hv3,hq3⟩;refine ⟨_,rfl,_,_,rfl,rfl,cd (by decide) (by decide),_,_,rfl,rfl,(by show (0:Int) < 2;decide),rfl,_,rfl,?_⟩;by_cases n2:V.int (n / 16 % 2)=V.int 0
    ·rw [aO n2];exact aw ⟨_,rfl,aB rfl,λ p4 hp4=>⟨p4,.neg q',_,rfl,az t3 hp4,Same.new hp4 _ _ hv3,b,af,hq3.kt (bZ (Same.new hp4))⟩⟩
    ·rw [aM n2];refine ap ⟨aB rfl,λ p4 hp4=>⟨_,rfl,aB rfl,λ p5 hp5=>⟨p5,.both (.sm .all) q',_,rfl,az (az t3 hp4) hp5,Same.new hp5 _ _ (Same.new hp4 _ _ hv3),p4,b,af,?_,(hq3.kt (bZ (Same.new hp4))).kt (bZ (Same.new hp5))⟩⟩⟩;exact Same.new hp5 _ _ af
   ·rintro σ H3 ⟨b,q',vk,rfl,t3,hv3,hq3⟩;exact R1 b q' vk H3 t3 hv3 hq3 λ z=>by rw [n0] at z;cases z
  ·rw [aM n0];exact ap (R1 a qq none H2 t2 hv2 hq λ _=>hf)
theorem zal{kn:Nat}{k0 k1 k2 k3 k4:Tok}(l:K.lookup a=some ⟨.type "tuple", none,.seq #[.str "plain" k0,.str "runs" k1,.str "book" k2,.str "base" k3,.str "steps" k4] kn,ksl⟩)(H:Hp):SqT K H a kindsV:=
 .inr ⟨_,_,kn,l,rfl,rfl,aB rfl,.cons ⟨k0,rfl⟩ (.cons ⟨k1,rfl⟩ (.cons ⟨k2,rfl⟩ (.cons ⟨k3,rfl⟩ (.cons ⟨k4,rfl⟩ .nil))))⟩
theorem zak{d:Data}(l:K.lookup a=some ⟨.type "tuple", none,d,ksl⟩):∃ o,K.lookup a=some o/\o.cls = .type "tuple" /\ o.dict=none:=⟨_,l,rfl,rfl⟩
structure Ds (K:W.Frag) (mg:Str->Option Value) (aT au bv gm p_check_question_of gp p_marked_values:Addr):Prop where
 D0:DD K mg "needed" oF ["number"]
 D1:DD K mg "is_whole" kx ["thing"]
 D2:DD K mg "is_value" oj ["value"]
 D3:DD K mg "are_values" nI ["values"]
 D4:DD K mg "is_block" oh ["values"]
 D5:DD K mg "check_block" nP ["values"]
 D6:DD K mg "check_kind" nU ["kind"]
 D7:DD K mg "folded" oa ["step"]
 D8:II K au "Tally.__init__" nD ["self"]
 D9:MM K au "add_number" "Tally.add_number" nA ["self", "number"]
 D10:MM K au "add" "Tally.add" ny ["self", "value"]
 D11:MM K au "book_room" "Tally.book_room" nC ["self"]
 D12:MM K au "base_room" "Tally.base_room" nB ["self"]
 D13:MM K au "steps_room" "Tally.steps_room" nG ["self"]
 D14:MM K au "rooms" "Tally.rooms" nF ["self"]
 D15:MM K au "least_room" "Tally.least_room" nE ["self"]
 D16:DD K mg "tally_of" oX ["values"]
 D17:DD K mg "room" oQ ["kind", "values"]
 D18:DD K mg "best_kind" nK ["values"]
 D19:DD K mg "in_bits" og ["number", "width"]
 D20:DD K mg "value_bits" o4 ["value"]
 D21:DD K mg "plain_bits" oH ["values"]
 D22:DD K mg "runs_of" oV ["values"]
 D23:DD K mg "runs_bits" oU ["values"]
 D24:DD K mg "book_bits" nO ["values"]
 D25:DD K mg "even_bits" n9 ["numbers"]
 D26:DD K mg "base_bits" nJ ["values"]
 D27:DD K mg "steps_bits" oW ["values"]
 D28:DD K mg "packed" oG ["kind", "values"]
 D29:MM K aT "take" "Reader.take" nu ["self", "width"]
 D30:MM K aT "has_more" "Reader.has_more" nn ["self"]
 D31:MM K aT "taken_since" "Reader.taken_since" nv ["self", "place"]
 D32:II K aT "Reader.__init__" nq ["self", "text"]
 D33:DD K mg "read_value" oP ["reader"]
 D34:DD K mg "read_plain" oM ["reader", "length"]
 D35:DD K mg "read_runs" oN ["reader", "length"]
 D36:DD K mg "read_book" oK ["reader", "length"]
 D37:DD K mg "read_base" oI ["reader", "length"]
 D38:DD K mg "unfolded" o0 ["number"]
 D39:DD K mg "read_steps" oO ["reader", "length"]
 D40:DD K mg "read_block" oJ ["reader"]
 D41:DD K mg "unpacked" o3 ["bits"]
 D42:DD K mg "check_column" nQ ["values"]
 D43:DD K mg "rooms_from" oS ["values", "begin"]
 D44:DD K mg "block_rooms" nL ["values"]
 D45:DD K mg "room_between" oR ["rooms", "begin", "end"]
 D46:DD K mg "least_prices" oB ["rooms"]
 D47:DD K mg "longest_begin" oC ["rooms", "found", "end"]
 D48:DD K mg "cuts" nZ ["values"]
 D49:DD K mg "blocks_between" nM ["values", "ends"]
 D50:DD K mg "tight" oZ ["values"]
 D51:II K bv "Column.__init__" ng ["self", "values"]
 D52:DD K mg "is_joined" oi ["asked"]
 D53:DD K mg "check_within" nY ["asked", "depth", "check_simple"]
 D54:DD K mg "check_joined" nR ["asked", "check_simple"]
 D55:DD K mg "things_named" oY ["simple"]
 D56:DD K mg "check_simple_of" nX ["simple", "is_good"]
 D57:DC K mg "check_question_of" kr ["question", "is_good"] gm p_check_question_of
 D58:DD K mg "check_question" nV ["question"]
 D59:DD K mg "answers" nH ["simple", "value"]
 D60:DD K mg "marked" oE ["asked", "marks_of"]
 D61:DC K mg "marked_values" ky ["question", "values"] gp p_marked_values
 D62:MM K bv "answering" "Column.answering" m8 ["self", "question"]
 D63:MM K bv "numbers_answering" "Column.numbers_answering" nh ["self", "question"]
 D64:MM K bv "rows" "Column.rows" ni ["self", "question"]
 D65:MM K bv "how_many" "Column.how_many" na ["self", "question"]
 D66:MM K bv "total" "Column.total" nj ["self", "question"]
 D67:MM K bv "ends" "Column.ends" m9 ["self", "question"]
 D68:DD K mg "_law_cell" ol ["_law_script", "_law_k"]
 D69:DD K mg "_law_mix" oq ["_law_script", "_law_k"]
 D70:DD K mg "_law_value" oz ["_law_script", "_law_k"]
 D71:DD K mg "_law_values" oA ["_law_script", "_law_k", "_law_most"]
 D72:DD K mg "_law_question" ou ["_law_script", "_law_k", "_law_values_here", "_law_deep"]
 D73:DD K mg "_law_good" om ["_law_question_here", "_law_deep"]
 D74:DD K mg "_law_spoilt" ox ["_law_question_here", "_law_number"]
 D75:DD K mg "_law_refusal" ow ["_law_kept"]
 D76:DD K mg "_law_told" oy ["_law_column", "_law_way", "_law_question_here"]
 D77:DD K mg "law" gC ["_law_script"]
theorem xo{l:W.OpenLaw}{fa:Addr}{aT au bv hJ de eB fm hG bx g9 g0 g8 dU gm p_check_question_of gp p_marked_values:Addr}(hfa:mg "law" = some (.ref fa))(T:Txt K mg ⟨aT,au,bv,hJ,de,eB,fm,hG,bx,g9,g0,g8,dU,gm,p_check_question_of,gp,p_marked_values⟩)(D:Ds K mg aT au bv gm p_check_question_of gp p_marked_values)(gI:DcK w K mg "JOINING" JL)(jw:DcK w K mg "SIMPLE" SL)(ne:p_check_question_of≠p_marked_values)(hz:∀ p∈[p_check_question_of,p_marked_values],K.lookup p=none)(pR:(∃ a es n,mg "WRITERS" = some (.ref a)/\K.lookup a=some ⟨.type "dict", none,.dict es n,#[]⟩/\W.KeysLit w.params es.toList/\(∃ f,W.nsIn K a "plain" = some (some (.ref f))/\mg "plain_bits" = some (.ref f))/\(∃ f,W.nsIn K a "runs" = some (some (.ref f))/\mg "runs_bits" = some (.ref f))/\(∃ f,W.nsIn K a "book" = some (some (.ref f))/\mg "book_bits" = some (.ref f))/\(∃ f,W.nsIn K a "base" = some (some (.ref f))/\mg "base_bits" = some (.ref f))/\(∃ f,W.nsIn K a "steps" = some (some (.ref f))/\mg "steps_bits" = some (.ref f))))(pQ:(∃ a es n,mg "READERS" = some (.ref a)/\K.lookup a=some ⟨.type "dict", none,.dict es n,#[]⟩/\W.KeysLit w.params es.toList/\(∃ f,W.nsIn K a "plain" = some (some (.ref f))/\mg "read_plain" = some (.ref f))/\(∃ f,W.nsIn K a "runs" = some (some (.ref f))/\mg "read_runs" = some (.ref f))/\(∃ f,W.nsIn K a "book" = some (some (.ref f))/\mg "read_book" = some (.ref f))/\(∃ f,W.nsIn K a "base" = some (some (.ref f))/\mg "read_base" = some (.ref f))/\(∃ f,W.nsIn K a "steps" = some (some (.ref f))/\mg "read_steps" = some (.ref f))))
  : (∀ p∈[p_check_question_of,p_marked_values],K.lookup p=none/\∃ c,W.codeHdIn K c p=true)/\∃ fd:FuncData,(∀ (s:Shared) (v:Value),BindsTo s fd ⟨[v],[]⟩ [("_law_script", v)])/\∀ base:Heap,K.In base->base.Ns mainGlobals mg->fe base mg->FnOk l.prog w K mg base CX0 18 fa fd ["_law_script"] (kB K [p_check_question_of,p_marked_values]):=by
 let t:Ad:=⟨aT,au,bv,hJ,de,eB,fm,hG,bx,g9,g0,g8,dU,gm,p_check_question_of,gp,p_marked_values⟩
 have T:Txt K mg t:=T;obtain ⟨zg0,zg2,_,zd,zar,zao,⟨_,zbs,zaF⟩,⟨_,zbt,zaG⟩,⟨_,zbu,zaH⟩,⟨_,zbv,zaI⟩,⟨_,zbw,zaJ⟩⟩:=pR;obtain ⟨zgZ,zg1,_,y7,zaq,zan,⟨_,zbm,zaA⟩,⟨_,zbn,zaB⟩,⟨_,zbo,zaC⟩,⟨_,zbp,zaD⟩,⟨_,zbq,zaE⟩⟩:=pQ;obtain ⟨_,e,_,⟨⟨_,_,kV,dc,pm,an,cd,ct,_,rfl,l_,c_⟩,k_⟩,_⟩:=D.D77;cases hfa.symm.trans e;have F:=jY (st:=gC) l_ c_ k_;refine ⟨λ p hp=>⟨hz p hp,?_⟩,W.fnOf "law" "law" (c4 gC) (cu gC) (av gC) .none kV dc pm an cd ct,λ s v=>.of_eq rfl,λ base _ _ B=>?_⟩
 ·rcases al_mc.mp hp with rfl | hp
  ·exact ⟨_,D.D57.hd⟩
  ·rw [al_mi.mp hp];exact ⟨_,D.D61.hd⟩
 have b:Bs l.prog w base:=trivial;have dO:=D.D0.cal b λ _ _=>zc5;have lf:=D.D1.cal b λ _ _=>tL T;have wE:=D.D2.cal b λ _ _=>zcN T lf;have jx:=D.D3.cal b λ _ _=>zcp T wE;have jz:=D.D4.cal b λ _ _=>zcM T jx;have qe:=D.D5.cal b λ _ _=>zcx T jz;have wD:=D.D6.cal b λ _ _=>zcz T;have jy:=D.D7.cal b λ _ _=>zcI;have qc:=D.D8.cal b λ _ _=>zcL T;have wx:=D.D9.cal b λ _ _=>zcm T jy;have pZ:=D.D10.cal b λ _ _=>zcl T wx;have wz:=D.D11.cal b λ _ _=>zcw T dO;have wy:=D.D12.cal b λ _ _=>zcr T dO;have wA:=D.D13.cal b λ _ _=>zdo T dO;have kP:=D.D14.cal b λ _ _=>zdi T wz wy wA;have qd:=D.D15.cal b λ _ _=>zcV T kP;have qf:=D.D16.cal b λ _ _=>zdr T qc pZ;have lq:=D.D17.cal b λ _ _=>zdg T qe wD qf kP;have kS:=D.D18.cal b λ _ _=>zcs T qe qf kP qd;have cF:=D.D19.cal b λ _ _=>zcK T;have dP:=D.D20.cal b λ _ _=>zdx T cF;have jB:=D.D21.cal b λ _ _=>zc8 T dP;have lu:=D.D22.cal b λ _ _=>zdm T;have wS:=D.D23.cal b λ _ _=>zdl T lu dP cF;have wC:=D.D24.cal b λ _ _=>zcv T dO cF jB;have gK:=D.D25.cal b λ _ _=>zcH T dO cF;have wB:=D.D26.cal b λ _ _=>zcq T dP gK;have wT:=D.D27.cal b λ _ _=>zdn T jy dP gK;have kQ:CalT l.prog w K mg base CX0 5 "WRITERS" ["values"] kindsS (spW K):=zgU zd zar zao zbs zbt zbu zbv zbw zaF zaG zaH zaI zaJ jB wS wC wB wT;have gM:=D.D28.cal b λ _ _=>zc7 T lq cF kQ;have gJ:=D.D29.cal b λ _ _=>zdp T;have wu:=D.D30.cal b λ _ _=>zcJ T;have ww:=D.D31.cal b λ _ _=>zdq T;have wv:=D.D32.cal b λ _ _=>zck T;have gN:=D.D33.cal b λ _ _=>zdf T gJ;have jC:=D.D34.cal b λ _ _=>zdc T gN;have wQ:=D.D35.cal b λ _ _=>zdd T gJ gN;have wP:=D.D36.cal b λ _ _=>zdb T gJ jC dO;have wO:=D.D37.cal b λ _ _=>zc9 T gJ;have lx:=D.D38.cal b λ _ _=>zdv;have wR:=D.D39.cal b λ _ _=>zde T gJ lx;have kO:CalT l.prog w K mg base CX0 5 "READERS" ["reader", "length"] kindsS (spR t):=zeL y7 zaq zan zbm zbn zbo zbp zbq zaA zaB zaC zaD zaE jC wQ wP wO wR;have lp:=D.D40.cal b λ _ _=>zda T gJ ww kO jz gM;have ly:=D.D41.cal b λ _ _=>zdw T wv wu lp;have kW:=D.D42.cal b λ _ _=>zcy T jx;have ls:=D.D43.cal b λ _ _=>zdj T qc pZ qd;have kT:=D.D44.cal b λ _ _=>zct T ls;have gO:=D.D45.cal b λ _ _=>zdh;have lg:=D.D46.cal b λ _ _=>zcW T gO;have lh:=D.D47.cal b λ _ _=>zcY T gO;have k9:=D.D48.cal b λ _ _=>zcE T kW kT lg lh;have kU:=D.D49.cal b λ _ _=>zcu T;have lw:=D.D50.cal b λ _ _=>zds T kU k9 gM kS;have wp:=D.D51.cal b λ _ _=>zcj T lw;have gL:=D.D52.cal b λ _ _=>zcO T gI;have iH:=D.D53.rec (k:=3) b (λ _ _ _ _ z=>z) (λ _ _ _=>zcF T gI gL) 7;have kX:=D.D54.cal b λ _ _=>zcA T iH;have jD:=D.D55.cal b λ _ _=>zdt T;have k8:=D.D56.cal b λ _ _=>zcD T jw jD;have kZ:=D.D57.cal b λ _ _=>zcC T B kX k8;have kY:=D.D58.cal b λ _ _=>zcB T D.D1 kZ;have kR:=D.D59.cal b λ _ _=>zcn T;have iI:=D.D60.rec (k:=2) b (λ _ _ _ _ z=>z) (λ _ _ _=>zc3 T gL) 6;have lj:=D.D61.cal b λ _ _=>zc4 T B iI kR;have kN:=D.D62.cal b λ _ _=>zco T ne kY ly lj;have pY:=D.D63.cal b λ _ _=>zc6 T kN;have wq:=D.D64.cal b λ _ _=>zdk T kN;have wo:=D.D65.cal b λ _ _=>zc2 T kN;have wt:=D.D66.cal b λ _ _=>zdu T pY;have wn:=D.D67.cal b λ _ _=>zcG T pY;have wF:=D.D68.cal b λ _ _=>zcP T;have jA:=D.D69.cal b λ _ _=>zcQ T wF;have wL:=D.D70.cal b λ _ _=>zcS T jA;have wM:=D.D71.cal b λ _ _=>zcT T jA wL;have wH:=D.D72.rec (k:=3) b (λ _ _ _ _ z=>z) (λ _ _ _=>zcZ T jA) 3;have wG:=D.D73.rec (k:=1) b (λ _ _ _ _ z=>z) (λ _ _ _=>zcX T) 7;have wJ:=D.D74.rec (k:=1) b (λ _ _ _ _ z=>z) (λ _ _ _=>zc1 T) 3;have wI:=D.D75.cal b λ _ _=>zcR T;have wK:=D.D76.cal b λ _ _=>zc0 T wq wo wt wn wI;exact zcU T wM jA wH wJ wG wp wK F
theorem zgQ{l:W.OpenLaw}{q:Program}{loose:List Str}{XP:(Str->Option Value)->Heap->Prop}{YP:World->Heap->Prop}{d:DefRec}{K:Params->W.Frag}{ts:List Addr}(hn:l.most=some 63)(hdf:d.params.defaults=[])(hY:∀ (w:World) (h:Heap),YP w h->(K w.params).In h)(hT:∀ (w:World) (h:Heap),YP w h->∀ p∈ts,h.get? p=some (W.tabObj #[]))(F:∀ (w:World) (mg:Str->Option Value) (fa:Addr) (h:Heap),(K w.params).In h->h.Ns mainGlobals mg->mg d.name=some (.ref fa)->
   (∀ p∈ts,(K w.params).lookup p=none/\∃ c,W.codeHdIn (K w.params) c p=true)/\∃ fd:FuncData,(∀ (s:Shared) (u:Value),BindsTo s fd ⟨[u],[]⟩ [("_law_script", u)])/\∀ base:Heap,(K w.params).In base->base.Ns mainGlobals mg->fe base mg->FnOk l.prog w (K w.params) mg base CX0 18 fa fd ["_law_script"] (kB (K w.params) ts)):
  W.WalkO q loose XP YP l.row.toRowW d [] (λ f vs=>PySem.call f vs):=
 L2.zgR (n:=63) (k:=18) (x := "_law_script") (CX:=CX0) (sp:=kB) hn (by decide) hdf ⟨rfl,by decide,by decide⟩ hY hT F (λ _ _ a ns hl hZ hS=>⟨a,ns,rfl,hS,hl,hZ,λ _=>rfl⟩) λ _ _ _ _ z=>z
end T1
open PySem PySem.W PyProof.Rows
set_option maxHeartbeats 0
namespace PySem.W.Fast
def tw1973340608764889420:=0
def tw15658783078273685601:=0
def tw6601249124379023567:=0
def tw11560184794709162558:=0
def tw3744637391809630434:=0
def tw15244934945096086091:=0
def tw2966245893745986782:=0
def tw10316275749434899228:=0
def tw4596154336263519989:=0
def tw8709528247894076133:=0
def tw11488582681846531510:=0
def tw18368713326256160463:=0
def tw15269542048403974969:=0
def tw9870752487764452798:=0
def tw13392989160716055246:=0
def tw5229223393565736022:=0
def tw173655755971940763:=0
def tw1510200132203093344:=0
def tw17804137797910129976:=0
def tw16912993558457738087:=0
def tw8010429739221350655:=0
def tw13512494431348122344:=0
def tw221459796718592479:=0
def tw18180450553987571463:=0
def tw1498911897619886491:=0
def tw2580756070439426241:=0
def tw16932750248981076975:=0
def tw4029100840319817195:=0
def tw6915830098602222075:=0
def tw13805876386964566051:=0
def tw18200311486174963496:=0
def tw671997056453627701:=0
def tw3170917433506981388:=0
def tw5968278798954764426:=0
def tw286672909443509423:=0
def tw15521333416134117164:=0
def tw9452942446560280524:=0
def tw11102882601449554769:=0
def tw16972357384913794669:=0
def tw11619530477501284458:=0
def tw3889481164690601262:=0
def tw14184829529035866001:=0
def tw344487501615055289:=0
def tw12795555041046419264:=0
def tw17542690509189486825:=0
def tw3405030353426649025:=0
def tw4612512449502464726:=0
def tw12502445556323134865:=0
def tw4279031294114029233:=0
def tw17100784302562312396:=0
def tw11445508280726042088:=0
def tw5785749835991850524:=0
def tw662487633825041949:=0
def tw13304969567683844135:=0
def tw2956457222204650364:=0
def tw14920106116421664357:=0
def tw15361794783275163355:=0
def tw14565058331254673193:=0
def tw9199807048112468164:=0
def tw1706668047271739993:=0
def tw2454911950171083921:=0
def tw2368650613007537531:=0
def tw17219136935623282979:=0
def tw4538263495220994855:=0
def tw240809779962320460:=0
def tw16918642582880093274:=0
def tw6996646363512349780:=0
def tw4406529518751146618:=0
def tw1208262575889395363:=0
def tw10419413646124371207:=0
def tw2102640151204726849:=0
def tw10315842190103737215:=0
def tw10111816829967620940:=0
def tw10835302523878952764:=0
def tw14229818408795933544:=0
def tw16967676927775733217:=0
def tw15927537555570953868:=0
def tw7931584329624968101:=0
def tw16437159813392760963:=0
def tw14807245280511448725:=0
def tw12891870898042309210:=0
def tw15151590658759971975:=0
def tw1863996257521021587:=0
def tw15521432821215370179:=0
def tw1730014827032318093:=0
def tw3417163676019053165:=0
def tw13252353580202293649:=0
def tw4816535666526697795:=0
def tw16433955766599512412:=0
def tw848319894122301810:=0
def tw9953251717546589380:=0
def tw17049490377257562395:=0
def tw17235451654336282918:=0
def tw14115612292630298329:=0
def tw13931468397397221669:=0
def tw4172150229251425597:=0
def tw14039470195028465946:=0
def tw15226153663592417464:=0
def tw5690963122746863800:=0
def tw352137625022990937:=0
def tw9890069310397148831:=0
def tw554491261183384867:=0
def tw5377395326752350224:=0
def tw73920596778585905:=0
def tw10192724254305547310:=0
def tw5464063524407708859:=0
def tw7318451870941531037:=0
def tw15475076116472076412:=0
def tw14667184450404836312:=0
def tw11714446256913669193:=0
def tw13459606278456390750:=0
def tw13423244913909445596:=0
def tw10622618413610721577:=0
def tw17678266531956157644:=0
def tw1830908206230394951:=0
def tw6113813435440603624:=0
def tw17558468112293427151:=0
def tw10809303569395626552:=0
def tw2717667709949493714:=0
def tw12396112007762138273:=0
def tw12747287592125256408:=0
def tw6297439460103748329:=0
def tw3044262868708388789:=0
def tw14685759011257162827:=0
def tw13856714165715252622:=0
def tw6234714931038679658:=0
def tw3251170706299921101:=0
def tw17247191448820504992:=0
def tw1211771764367981948:=0
def tw9988316690921611170:=0
def tw7703342370262253421:=0
def tw15601310325441786835:=0
def tw16939395840372526821:=0
def tw5452863943403700034:=0
def tw14849254571477763173:=0
def tw287759276949640782:=0
def tw6776374947273356065:=0
def tw8850625324321297912:=0
def tw12804604249971251148:=0
def tw16317507031998536401:=0
def tw4609309207603839798:=0
def tw8269725058638569025:=0
def tw1956447246544186980:=0
def tw10854501823085113059:=0
def tw12530826638661405753:=0
def tw4452426404830162460:=0
def tw1318867492284069353:=0
def tw13522922977720345347:=0
def tw2281186078294684690:=0
def tw16485247128310386419:=0
def tw2075176308104322180:=0
def tw13114996386560476355:=0
def tw11084335826082562925:=0
def tw4206241323123782879:=0
def tw10695786206435501885:=0
def tw8245013078727580144:=0
def tw11003032744894505060:=0
def tw2380259879743802847:=0
def tw12753560315091119440:=0
def tw1013632120382525615:=0
def tw12600851497627108889:=0
def tw7261734385749754968:=0
def tw13157358574671220019:=0
def tw8878664061835918867:=0
def tw13448108757416826754:=0
def tw16674154562218041092:=0
def tw18366071067584206253:=0
def tw6391717739897243213:=0
def tw5804672499253827153:=0
def tw16119177666811403048:=0
def tw7613062246412473328:=0
def tw13949295291865641403:=0
def tw2027147355734552674:=0
def tw17185122331531784539:=0
def tw10865143202988551324:=0
def tw18126970089978495002:=0
def tw5693138940484814519:=0
def tw5264176639191122666:=0
def tw7420726384796275523:=0
def tw6884399864873781254:=0
def tw15270460133755492586:=0
def tw8864543501030042677:=0
def tw7657006200426794580:=0
def tw6769705513128860221:=0
def tw18227802397245407935:=0
def tw3572778898075803552:=0
def tw3596694679217542789:=0
def tw14549605204448269651:=0
def tw10612943287285434235:=0
def tw17733635223943285018:=0
def tw5904835489459128595:=0
def tw18214029645552436564:=0
def tw7606212715459731067:=0
def tw15215750107321853362:=0
def tw16964319018770451151:=0
def tw17070029354638458402:=0
def tw14740688961035114918:=0
def tw6070047876364108375:=0
def tw5219902850126663224:=0
def tw367866435453632683:=0
def tw10970139740794402:=0
def tw6235812772397662657:=0
def tw5896508009151102891:=0
def tw1864084611233545055:=0
def tw7859145918425269027:=0
def tw4484478099829424759:=0
def tw15183654298703580310:=0
def tw2552491215392600760:=0
def tw2420824607370708266:=0
def tw16990709013855301292:=0
def tw5977639002648386907:=0
def tw14868828354879650990:=0
def tw8627316120773386284:=0
def tw11586542666913780421:=0
def tw17895601660293104214:=0
def tw5516899472563577517:=0
def tw4996525928202335354:=0
def tw14562643391978094307:=0
def tw14239524026382904213:=0
def tw14238680209270949854:=0
def tw16112245242390914061:=0
def tw13047056831220951069:=0
def tw9339046309433212781:=0
def tw7383273718688807001:=0
def tw29342841495252606:=0
def tw5383483660917698021:=0
def tw8454548199579164731:=0
def tw17957892436416624737:=0
def tw2516120676309143928:=0
def tw3804860017943828795:=0
def tw11727005905670615581:=0
def tw16988215867578721995:=0
def tw10660541725703278316:=0
def tw9845921835416411572:=0
def tw1748808691809154114:=0
def tw2974884500323138856:=0
def tw8073985000109034936:=0
def tw16919461112605706200:=0
def tw12478598416591516323:=0
def tw6229894234730211693:=0
def tw7544785423774722442:=0
def tw1103546482817042808:=0
def tw6861644675940817275:=0
def tw8739451924666012362:=0
def tw8606321473357037856:=0
def tw17907172058478311561:=0
def tw4002690524293306566:=0
def tw12680947009161176736:=0
def tw6031609661789783420:=0
def tw8199395580642738725:=0
def tw18075588705978027436:=0
def tw17669047950913360866:=0
def tw14133389711027405901:=0
def tw17545327648822006312:=0
def tw2224902754162047695:=0
def tw17939464856633841436:=0
def tw13848297726204470335:=0
def tw17713708125061812287:=0
def tw299240807854525148:=0
def tw9695999583051533164:=0
def tw9734181911266148255:=0
def tw11806559207921876369:=0
def tw9933915225936180657:=0
def tw14931435692540792041:=0
def tw3860776203263708313:=0
def tw17421383372887412308:=0
def tw10622699155197528761:=0
def tw17716708209731213412:=0
def tw15893705126259337236:=0
def tw15158491489857271106:=0
def tw9726328867599884474:=0
def tw9623468300886656184:=0
def tw9049983261099202768:=0
def tw4763930345756842383:=0
def tw16172937008932901834:=0
def tw12216099134908685735:=0
def tw16085631040612390421:=0
def tw9130168516531842566:=0
def tw2391637522939401103:=0
def tw4618962067786203129:=0
def tw9871489147303070957:=0
def tw5896253156054306730:=0
def tw3837350840074257164:=0
def tw350667501750275589:=0
def tw2726897824759195719:=0
def tw11868860491005354087:=0
def tw16740708683265787917:=0
def tw5036337098622603555:=0
def tw3927951730769863623:=0
def tw6237074347220734881:=0
def tw6834977854798274986:=0
def tw14912382621324889970:=0
def tw3633665255253870609:=0
def tw10986400866849006701:=0
def tw7262106096222790656:=0
def tw17378347123831767758:=0
def tw1767558230403387650:=0
def tw11406108056763973571:=0
def tw13478392149506266919:=0
def tw18104389240155769932:=0
def tw4703372063388044626:=0
def tw13046502179525381254:=0
def tw15437930537390785990:=0
def tw3236473969364872084:=0
def tw16874286588492719270:=0
def tw5992563732605855900:=0
def tw1726883704454196283:=0
def tw8498844721267449932:=0
def tw2980271258511457392:=0
def tw806949893841662317:=0
def tw9774863975185998414:=0
def tw13337847501390842365:=0
def tw9570218781351430342:=0
def tw6567558210847300780:=0
def tw16177411549342114042:=0
def tw11012188858915185121:=0
def tw5001973696805834516:=0
def tw17507645131591064581:=0
def tw5517585819318438342:=0
def tw10245893395729034000:=0
def tw10831809040122242787:=0
def tw7432077782999998010:=0
def tw5690187012347943667:=0
def tw15671185428144512332:=0
def tw6629386943682504847:=0
def tw14146512151089479756:=0
def tw10160808532885311371:=0
def tw18271451639169192085:=0
def tw6790509893396984765:=0
def tw16800855567691357440:=0
def tw5421474735326581869:=0
def tw7159731447419748470:=0
def tw13393411031837870954:=0
def tw13252270616281195468:=0
def tw5104475729016476183:=0
def tw18102918096586599035:=0
def tw18290100938826663639:=0
def tw7170965878340397250:=0
def tw18321363963332494816:=0
def tw15125979998166909685:=0
def tw6600054379798267642:=0
def tw16409118574462731094:=0
def tw10038839336961602419:=0
def tw514677042708511838:=0
def tw7422696757780116098:=0
def tw3160872539375227678:=0
def tw8080540647850784022:=0
def tw17802389676963110124:=0
def tw17825473462361243894:=0
def tw12508628821257368383:=0
def tw9061865201104431712:=0
def tw8199247208863462921:=0
def tw15268585031771050568:=0
def tw17565604296858036380:=0
def tw3443682480178775183:=0
def tw4170840242252787265:=0
def tw14053504151495531725:=0
def tw10013087405382653409:=0
def tw13624340646099814081:=0
def tw2155631512253720475:=0
def tw8294425144084828930:=0
def tw1548226201143437457:=0
def tw14727548631776378380:=0
def tw7309996344445220365:=0
def tw4508904066362819064:=0
def tw5540869160410674063:=0
def tw953631999767146166:=0
def tw15755882295301066212:=0
def tw7956313290842483969:=0
def tw10989786549691176865:=0
def tw4139724941342763884:=0
def tw8542186475300965374:=0
def tw16188123542712283244:=0
def tw9301575379628228184:=0
def tw4952958759513730374:=0
def tw2932073068834133059:=0
def tw15890311146629620522:=0
def tw12864654458927719793:=0
def tw1854279495549251819:=0
def tw9755000875203588542:=0
def tw13185137391835995020:=0
def tw8835675536420985339:=0
def tw6902474974879986365:=0
def tw1131552030359313225:=0
def tw14371911778807456644:=0
def tw1878512620441522719:=0
def tw9146535242315136324:=0
def tw15905497889041215116:=0
def tw237427295273466247:=0
def tw12318143182229075062:=0
def tw4075534055035648615:=0
def tw1934342765516085098:=0
def tw14493528782373397972:=0
def tw13474216243664682901:=0
def tw7343849017383343070:=0
def tw10731705475223643030:=0
def tw7274440578285169364:=0
def tw7230636219138163883:=0
def tw17095042675694617940:=0
def tw9316257420537803842:=0
def tw13651759870369045602:=0
def tw13757318917767175976:=0
def tw3596207922894098914:=0
def tw572381777040596222:=0
def tw10755617042564378947:=0
def tw5618761452292580564:=0
def tw18080633023247726275:=0
def tw612596712336294024:=0
def tw2797715987962162624:=0
def tw16613334908412405452:=0
def tw3079938076832943007:=0
def tw16945094188234701374:=0
def tw10210533161922905118:=0
def tw11034714316928637691:=0
def tw4456025964443670734:=0
def tw5437258925473781924:=0
def tw2283079157248689652:=0
def tw12063485555874197534:=0
def tw5974905926662729720:=0
def tw12652049207180945810:=0
def tw11272957009212270371:=0
def tw14964524168134258558:=0
def tw990501955460608906:=0
def tw8334405679399290372:=0
def tw6697821658260131582:=0
def tw8863292697486156756:=0
def tw15224876262520777644:=0
def tw14585155124356792162:=0
def tw16616452428206558570:=0
def tw15705491243596298849:=0
def tw12859821932968831206:=0
def tw534591559976415972:=0
def tw3423329211114306238:=0
def tw6916379305797651004:=0
def tw5841221960849292793:=0
def tw12115621041102441880:=0
def tw15175850770351403527:=0
def tw14263941631790068389:=0
def tw12012909254268563485:=0
def tw7788108517750774289:=0
def tw13625701831481723108:=0
def tw13135312118438224810:=0
def tw3068747584154040982:=0
def tw14651948856004404795:=0
def tw3835208135040620669:=0
def tw9770588296027657752:=0
def tw4254164765189305117:=0
def tw7652450527821890188:=0
def tw10963919122452300853:=0
def tw5295219068271354496:=0
def tw9879778188843736180:=0
def tw2016663320872201641:=0
def tw18298330880143385132:=0
def tw5858364721688685421:=0
def tw8330061560534210826:=0
def tw13071457846391158090:=0
def tw834477282342894186:=0
def tw2245422007252765689:=0
def tw5686671797484813944:=0
def tw6000875480494028010:=0
def tw13981343897175861415:=0
def tw478203008852189134:=0
def tw3344290060629431763:=0
def tw18114352478076919703:=0
def tw188883623034695729:=0
def tw303829349534629365:=0
def tw4535502644590736089:=0
def tw2321586773365916936:=0
def tw17252347037424255955:=0
def tw6093917357581594489:=0
def tw3184373933693428159:=0
def tw11487401000151752628:=0
def tw15409287533244459047:=0
def tw16845422090467004690:=0
def tw18352852314722276526:=0
def tw2500545024027881011:=0
def tw831148351220986244:=0
def tw9380628794517240338:=0
def tw14080531039009980197:=0
def tw10616505569305294775:=0
def tw16396591963791450293:=0
def tw7608928538590925909:=0
def tw17888833473685827465:=0
def tw15851156653017510482:=0
def tw17274228011758857307:=0
def tw3611937969201909505:=0
def tw230002561628744539:=0
def tw11607949592981760411:=0
def tw11793686717680030982:=0
def tw3466565332207359283:=0
def tw2280474327425726866:=0
def tw1370508821152205327:=0
def tw7622837502988662559:=0
def tw18265779001190519341:=0
def tw1808630335779352884:=0
def tw14053406601142911200:=0
def tw12522802064832047399:=0
def tw8821917114940400002:=0
def tw3560076093160902241:=0
def tw5779599517790788843:=0
def tw3993158477985514055:=0
def tw17578786491406110079:=0
def tw10938626480657370576:=0
def tw9367158818849852125:=0
def tw9002487023948336854:=0
def tw8353525087992454769:=0
def tw12364533422071330945:=0
def tw6085395523114193466:=0
def tw6768699508898698262:=0
def tw2376956020883244415:=0
def tw3619763369656764223:=0
def tw2984655927777551683:=0
def tw8592751873588814674:=0
def tw7783526574807713190:=0
def tw1465816456658834717:=0
def tw15325118743222827818:=0
def tw9180685229610572861:=0
def tw15581607756959870592:=0
def tw15486649510371918313:=0
def tw17223093697912720731:=0
def tw1747895729840741671:=0
def tw4802388979175011378:=0
def tw10597502084916461792:=0
def tw13176580680423895290:=0
def tw15731347128024902848:=0
def tw15134296165547278670:=0
def tw14062422353109836429:=0
def tw3084618509763690642:=0
def tw6690325679796048594:=0
def tw18433105807372761317:=0
def tw17578594624339215951:=0
def tw2071794526608414385:=0
def tw4777259175800981476:=0
def tw1331975560509730554:=0
def tw18121078406341630195:=0
def tw12327658968109667500:=0
def tw3532600774605407797:=0
def tw6267179407833709302:=0
def tw8461487261678531621:=0
def tw13009137818982304475:=0
def tw15412742156205263407:=0
def tw11854748256979273000:=0
def tw2969222762346530482:=0
def tw8792083415928120279:=0
def tw7028558162725685292:=0
def tw10262716082469821233:=0
def tw13034552867915162565:=0
def tw2595320908570847734:=0
def tw2268377923682457816:=0
def tw17163482567653245045:=0
def tw2178121182916059609:=0
def tw9607916091417622165:=0
def tw17012990091256597297:=0
def tw5659710466290288353:=0
def tw5776831469774785560:=0
def tw16754270069919069636:=0
def tw7359066880962628752:=0
def tw1906056220285672612:=0
def tw16177647795522042834:=0
def tw6962856525279014324:=0
def tw18300993738746661683:=0
def tw2197676823988195881:=0
def tw14648388446271383348:=0
def tw7789386674185495693:=0
def tw14872200674811540345:=0
def tw14529964807270224221:=0
def tw6981169940339241418:=0
def tw8889187603585300565:=0
def tw13003192145567628671:=0
def tw16056588259421930598:=0
def tw6333189350900705271:=0
def tw12836780760455996894:=0
def tw2133977811625845745:=0
def tw4934862434585624514:=0
def tw3828410308979637205:=0
def tw5770607373114926903:=0
def tw5747666722977614592:=0
def tw4237861413891748782:=0
def tw5101417508093753778:=0
def tw14510886593850153240:=0
def tw11843485399616810788:=0
def tw6691769973208477522:=0
def tw7613040271796729075:=0
def tw16975147035405441335:=0
def tw4282258793446758993:=0
def tw7459610057804731207:=0
def tw2666498635560236249:=0
def tw4718061261048886374:=0
def tw13786473762071199709:=0
def tw8742872328153122778:=0
def tw17373710104370180114:=0
def tw7480879988494328370:=0
def tw17440794415510187443:=0
def tw3690138864109640549:=0
def tw16280227089394414309:=0
def tw11633331228534605979:=0
def tw4369376446284177449:=0
def tw5195067381827745942:=0
def tw2382992275887692760:=0
def tw10078824945311107981:=0
def tw3449151487287889716:=0
def tw7789197824413173440:=0
def tw12559391663106326534:=0
def tw17293065363602386423:=0
def tw3200432343640838177:=0
def tw4201934333532556523:=0
def tw18347558100643953664:=0
def tw18193008640565799219:=0
def tw17813609207242984234:=0
def tw2720493043715476182:=0
def tw18310758381947218900:=0
def tw8040617194492956893:=0
def tw17201765767742048946:=0
def tw11489337489937016767:=0
def tw5858622934521100715:=0
def tw2684302266449327552:=0
def tw1846426277416668415:=0
def tw15697589476753807547:=0
def tw18258326644582385301:=0
def tw8766456287040684514:=0
def tw16011750362397758262:=0
def tw12984911095166870087:=0
def tw7351830196990730641:=0
def tw1623456000873471751:=0
def tw7865389774289833071:=0
def tw12658896088618171955:=0
def tw3428217571991194136:=0
def tw1485575034126290221:=0
def tw15843241780922377137:=0
def tw15619987043890102732:=0
def tw16842631723615805953:=0
def tw2251937662664595339:=0
def tw3689412038152604360:=0
def tw17409845881752741456:=0
def tw12296013563460990953:=0
def tw15006835679388105490:=0
def tw2764400884762782331:=0
def tw5596239640151056864:=0
def tw14039580775480587124:=0
def tw14383538965123232833:=0
end PySem.W.Fast
open_top hdk for PySem.Challenge.rw_tightrows_k21_no_questions
open PySem PySem.W PyProof.Rows
set_option maxRecDepth 100000 in
set_option maxHeartbeats 0 in
theorem PySem.Challenge.cw_tightrows_k21_no_questions_holds : PySem.Challenge.rw_tightrows_k21_no_questions.Holds :=
 hdk (by
  k_fill
  refine T1.zgQ (l:=PySem.Challenge.rw_tightrows_k21_no_questions) (ts:=[466,492]) rfl rfl (fun w h Y=>PySem.W.km_in_of Y) ?Z ?F
  case Z=>
    intro w h Y p hp;exact PySem.W.km_tabs_of Y p ((by decide:∀ p∈([466,492]:List Nat),p∈([492,466]:List Nat)) p hp)
  case F=>
    intro w mg fa h KX G hmg;refine' T1.xo (p_check_question_of:=466) (p_marked_values:=492) hmg ?T ?D ?CJOINING ?CSIMPLE ?ne ?hz ?pR ?pQ
    case ne=>decide
    case hz=>
      intro p hp;rcases List.mem_cons.mp hp with rfl | hp
      · first | k_is | kernel_rfl
      · rw [List.mem_singleton.mp hp];first | k_is | kernel_rfl
    case CJOINING=>exact L2.rG (mg_of KX G (by k_is)) (by decide) (by k_is) (by (repeat (first | exact trivial | refine ⟨⟨_,_,rfl,rfl⟩,?_⟩))) (by (repeat (first | exact trivial | refine ⟨⟨_,rfl⟩,⟨_,rfl⟩,?_⟩)))
    case CSIMPLE=>exact L2.rG (mg_of KX G (by k_is)) (by decide) (by k_is) (by (repeat (first | exact trivial | refine ⟨⟨_,_,rfl,rfl⟩,?_⟩))) (by (repeat (first | exact trivial | refine ⟨⟨_,rfl⟩,⟨_,rfl⟩,?_⟩)))
    case T=>
      constructor
      all_goals (try dsimp only)
      all_goals (try exact mg_of KX G (by k_is))
      all_goals first | exact mg_none_of KX G (by k_is) | exact ⟨_,mg_of KX G (by k_is)⟩ | (show kitOne _ _ _=_;kit_is) | (show exmOne _ _ _=_;kts_exm) | (show findIn _ _ _=_;k_is) | exact ⟨by k_is,by k_is,by k_is,by k_is⟩ | exact ⟨by k_exc⟩ | exact ⟨(show isClsIn _ _=true by k_is),by k_is,by k_is,by k_is,by k_is,by k_is,by k_is,by k_is⟩ | exact ⟨by k_is,by k_is⟩ | exact T1.zal (by k_is) | exact T1.zak (by k_is)
    case D=>
      constructor
      all_goals first | refine ⟨_,mg_of KX G (by k_is),?_⟩ | refine ⟨_,⟨by k_is,by k_is,by k_is⟩,?_⟩ | refine ⟨_,⟨by k_is,by k_is,by k_is,by k_is⟩,?_⟩
      all_goals first | exact L2.fb2 (by k_is) (by k_is) (by k_is) fun _ _ _ _ _ _ _ _=>rfl | exact L2.fb1 (by k_is) (by k_is) (by k_is) fun _ _ _ _ _ _ _=>rfl | exact L2.fb3 (by k_is) (by k_is) (by k_is) fun _ _ _ _ _ _ _ _ _=>rfl | exact L2.fb4 (by k_is) (by k_is) (by k_is) fun _ _ _ _ _ _ _ _ _ _=>rfl | exact L2.fb0 (by k_is) (by k_is) (by k_is) fun _ _ _ _ _ _=>rfl | exact L2.fb5 (by k_is) (by k_is) (by k_is) fun _ _ _ _ _ _ _ _ _ _ _=>rfl | exact L2.fc2 (by k_is) (by k_is) (by first | k_is | kernel_rfl) (by k_is) fun _ _ _ _ _ _ _ _=>rfl
    case pR=>exact ⟨_,_,_,mg_of KX G (by k_is),by k_is,by (repeat (first | exact trivial | refine ⟨⟨_,_,rfl,rfl⟩,?_⟩)),⟨_,by k_is,mg_of KX G (by k_is)⟩,⟨_,by k_is,mg_of KX G (by k_is)⟩,⟨_,by k_is,mg_of KX G (by k_is)⟩,⟨_,by k_is,mg_of KX G (by k_is)⟩,⟨_,by k_is,mg_of KX G (by k_is)⟩⟩
    case pQ=>exact ⟨_,_,_,mg_of KX G (by k_is),by k_is,by (repeat (first | exact trivial | refine ⟨⟨_,_,rfl,rfl⟩,?_⟩)),⟨_,by k_is,mg_of KX G (by k_is)⟩,⟨_,by k_is,mg_of KX G (by k_is)⟩,⟨_,by k_is,mg_of KX G (by k_is)⟩,⟨_,by k_is,mg_of KX G (by k_is)⟩,⟨_,by k_is,mg_of KX G (by k_is)⟩⟩
  )
#print axioms PySem.Challenge.cw_tightrows_k21_no_questions_holds
