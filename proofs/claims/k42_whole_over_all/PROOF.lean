import PyProof.Rows.All
import Wide.All
import OpenK.AllK
import Wide.FinOn
import Lean
import PyProof.EqAt
import PyProof.EqKinds
import PyProof.TupleCall
import PyProof.ExcArgsOwn
import PyProof.ExcAttrAll.ValueError
import PyProof.EnumMake
import PyProof.EnumFor
import PyProof.NeKinds
import PyProof.DictValues
import KE.KDictList
import PyProof.AttrMissHeap
import KE.KDictOf
import PyProof.Rows.SetFrom
import PyProof.Rows.SortShellK
import PyProof.MeetsSeq3
import PyProof.FactsAll.list_2
import KE.KSortAsk
import KE.KDictSum
import PySem.Challenge.RW_figurefall_k42_whole_over_all
set_option Elab.async false
set_option linter.all false
set_option maxRecDepth 100000
set_option compiler.extract_closed false
noncomputable section
namespace L2
open PySem PySem.Spec PyProof.Rows
abbrev Key:=Sum Int Str
def keyIs:Key→Value→Bool
 | .inl k,v=>Value.isInt k v
 | .inr x,v=>Value.isStrOf x v
def keyH (w:World):Key→Int
 | .inl k=>hashInt k
 | .inr x=>hashStr w x
theorem keyIs_shape:∀ {k:Key} {v:Value},keyIs k v=true→(∃ i t,k=Sum.inl i∧v=Value.int i t)∨(∃ x t,k=Sum.inr x∧v=Value.str x t)
 | .inl i,v,h=>by
  obtain ⟨t,e⟩:=Value.isInt_shape (k:=i) (v:=v) h
  exact .inl ⟨i,t,rfl,e⟩
 | .inr x,v,h=>by
  obtain ⟨t,e⟩:=Value.isStrOf_shape (x:=x) (v:=v) h
  exact .inr ⟨x,t,rfl,e⟩
theorem keyIs_int (i:Int) (t:Tok):keyIs (.inl i) (.int i t)=true:=by simp [keyIs,Value.isInt]
theorem keyIs_str (x:Str) (t:Tok):keyIs (.inr x) (.str x t)=true:=by simp [keyIs,Value.isStrOf]
theorem key_ll (a b:Int):decide ((Sum.inl a:Key)=Sum.inl b)=(a == b):=by
 by_cases e:a=b
 ·subst e;simp
 ·have h:¬ (Sum.inl a:Key)=Sum.inl b:=fun q=>e (Sum.inl.inj q)
  rw [decide_eq_false h]
  exact (beq_eq_false_iff_ne.mpr e).symm
theorem key_rr (a b:Str):decide ((Sum.inr a:Key)=Sum.inr b)=decide (a=b):=by
 by_cases e:a=b
 ·subst e;simp
 ·have h:¬ (Sum.inr a:Key)=Sum.inr b:=fun q=>e (Sum.inr.inj q)
  rw [decide_eq_false h,decide_eq_false e]
theorem key_lr (a:Int) (b:Str):decide ((Sum.inl a:Key)=Sum.inr b)=false:=decide_eq_false (fun q=>nomatch q)
theorem key_rl (a:Str) (b:Int):decide ((Sum.inr a:Key)=Sum.inl b)=false:=decide_eq_false (fun q=>nomatch q)
def mixKind (prog:Program) (w:World):PySem.KeyKind prog w Key where
 is:=keyIs
 hash:=keyH w
 inj:=fun v a b ha hb=>by
  rcases keyIs_shape ha with ⟨i,t,rfl,rfl⟩ | ⟨x,t,rfl,rfl⟩
  ·rcases keyIs_shape hb with ⟨j,u,rfl,e⟩ | ⟨y,u,rfl,e⟩
   ·injection e with e1 _;rw [e1]
   ·exact nomatch e
  ·rcases keyIs_shape hb with ⟨j,u,rfl,e⟩ | ⟨y,u,rfl,e⟩
   ·exact nomatch e
   ·injection e with e1 _;rw [e1]
 byValue:=fun k v h=>by
  rcases keyIs_shape h with ⟨i,t,rfl,rfl⟩ | ⟨x,t,rfl,rfl⟩ <;> rfl
 pyHash:=fun hv h=>by
  rcases keyIs_shape hv with ⟨i,t,rfl,rfl⟩ | ⟨x,t,rfl,rfl⟩
  ·exact wpAny_pyHash_int h
  ·exact wpAny_pyHash_str h
 eqBool:=fun hu hv h=>by
  rcases keyIs_shape hu with ⟨i,t,rfl,rfl⟩ | ⟨x,t,rfl,rfl⟩
  ·rcases keyIs_shape hv with ⟨j,u,rfl,rfl⟩ | ⟨y,u,rfl,rfl⟩
   ·rw [key_ll] at h;exact wpAny_eqBool_int h
   ·rw [key_lr] at h;exact SeqAt.EqAt.int_str i t y u _ _ _ _ h
  ·rcases keyIs_shape hv with ⟨j,u,rfl,rfl⟩ | ⟨y,u,rfl,rfl⟩
   ·rw [key_rl] at h;exact SeqAt.EqAt.str_int x t j u _ _ _ _ h
   ·rw [key_rr] at h;exact wpAny_eqBool_str h
 «strs»:=fun k x t v h=>by
  rcases keyIs_shape h with ⟨i,u,rfl,e⟩ | ⟨y,u,rfl,e⟩
  ·exact nomatch e
  ·injection e with e1 _
   subst e1
   cases v <;> rfl
theorem mixKind_int (prog:Program) (w:World) (i:Int) (t:Tok):(mixKind prog w).is (.inl i) (.int i t)=true:=keyIs_int i t
theorem mixKind_str (prog:Program) (w:World) (x:Str) (t:Tok):(mixKind prog w).is (.inr x) (.str x t)=true:=keyIs_str x t
end L2
namespace L2
open PySem PySem.Spec PyProof.Rows
inductive V where
 | non | bl (b:Bool) | int (i:Int) | str (x:Str) | byt (b:Array UInt8) | flt (b:UInt64) | ref (a:Addr) | ty (n:String)
 deriving DecidableEq
def RelV:V→Value→Prop
 | .non,u=>u=Value.none
 | .bl b,u=>u=Value.bool b
 | .int i,u=>∃ t,u=Value.int i t
 | .str x,u=>∃ t,u=Value.str x t
 | .byt b,u=>∃ t,u=Value.bytes b t
 | .flt b,u=>∃ t,u=Value.float b t
 | .ref a,u=>u=Value.ref a
 | .ty n,u=>u=Value.type n
abbrev Vals:List V→List Value→Prop:=Paired RelV
theorem Vals.length {xs:List V} {us:List Value} (r:Vals xs us):xs.length=us.length:=Paired.length r
theorem Vals.get:∀ {xs:List V} {us:List Value} {i:Nat} {x:V},Vals xs us→xs[i]? = some x→∃ u,us[i]? = some u∧RelV x u
 | _,_,_,_,.nil,e=>by simp at e
 | _,_,0,_,.cons r _,e=>by simp at e;subst e;exact ⟨_,rfl,r⟩
 | _,_,i+1,x,.cons _ t,e=>by
  obtain ⟨u,h1,h2⟩:=Vals.get (i:=i) (x:=x) t (by simpa using e)
  exact ⟨u,by simpa using h1,h2⟩
theorem Vals.set {x:V} {u:Value} (r:RelV x u):∀ {xs:List V} {us:List Value} (i:Nat),Vals xs us→Vals (xs.set i x) (us.set i u)
 | _,_,_,.nil=>.nil
 | _,_,0,.cons _ t=>.cons r t
 | _,_,i+1,.cons q t=>.cons q (Vals.set r i t)
theorem Vals.append:∀ {xs ys:List V} {us ws:List Value},Vals xs us→Vals ys ws→Vals (xs++ys) (us++ws)
 | _,_,_,_,.nil,s=>s
 | _,_,_,_,.cons r t,s=>.cons r (Vals.append t s)
theorem Vals.take:∀ {xs:List V} {us:List Value} (n:Nat),Vals xs us→Vals (xs.take n) (us.take n)
 | _,_,0,_=>.nil
 | _,_,_+1,.nil=>.nil
 | _,_,n+1,.cons r t=>.cons r (Vals.take n t)
theorem Vals.drop:∀ {xs:List V} {us:List Value} (n:Nat),Vals xs us→Vals (xs.drop n) (us.drop n)
 | _,_,0,r=>r
 | _,_,_+1,.nil=>.nil
 | _,_,n+1,.cons _ t=>Vals.drop n t
def RelO:Option V→Option Value→Prop
 | some v,some u=>RelV v u
 | none,none=>True
 | _,_=>False
def KV {κ:Type}:List (κ×V)→List (κ×Value)→Prop:=Paired fun (p:κ×V) (q:κ×Value)=>p.1=q.1∧RelV p.2 q.2
def kV:Key→V
 | .inl i=>.int i
 | .inr x=>.str x
inductive HO where
  | lst (xs:List V)
  | tup (xs:List V)
  | dK (kvs:List (Key×V)) | dT (kvs:List (List Key×V))
  | set (S:Int→Bool) (n:Nat)
  | ins (C dx:Addr) (fs:List (Str×V))
  | own (x:Addr)
  | xd (fs:List (Str×V))
  | met (f x:Addr)
  | rng (lo hi:Int)
  | frz (o:Obj) (u:HO)
  | tbl (ps:Array Value)
  | ext (φ:Heap→Prop)
abbrev Hp:=Addr→Option HO
def upd (H:Hp) (a:Addr) (o:HO):Hp:=fun b=>if b=a then some o else H b
theorem upd_same {H:Hp} {a:Addr} {o:HO}:upd H a o a=some o:=by unfold upd;rw [if_pos rfl]
theorem upd_ne {H:Hp} {a b:Addr} {o:HO} (h:b≠a):upd H a o b=H b:=by unfold upd;rw [if_neg h]
theorem ne_of {H:Hp} {a b:Addr} {o u:HO} (h:H a=some o) (h':H b=some u) (d:o≠u):a≠b:=by
 intro e;subst e;rw [h] at h';exact d (Option.some.inj h')
theorem ne_of_none {H:Hp} {a b:Addr} {o:HO} (h:H a=some o) (h':H b=none):a≠b:=by
 intro e;subst e;rw [h] at h';cases h'
section
variable (P:Program) (w:World)
def ObjOk (H:Hp) (h:Heap) (a:Addr):HO→Prop
 | .lst xs=>xs.length≤sizeLine∧∃ (its:List Value) (n:Nat),Vals xs its∧h.get? a=some { cls:=.type "list",data:=.seq its.toArray n }
 | .tup xs=>xs.length≤sizeLine∧∃ its:List Value,Vals xs its∧IsTup h a its.toArray
 | .dK kvs=>kvs.length≤sizeLine∧(a == sysModules)=false∧∃ vs,KV kvs vs∧h.DictOf (mixKind P w) a vs
 | .dT kvs=>kvs.length≤sizeLine∧(a == sysModules)=false∧∃ xs:List (List Key×Addr×Value),
   Paired (fun (p:List Key×V) (q:List Key×Addr×Value)=>p.1=q.1∧H q.2.1=some (.tup (p.1.map kV))∧RelV p.2 q.2.2) kvs xs ∧
   ∃ o es ep,h.get? a=some o∧o.ExactDict∧o.data=.dict es ep∧es.toList=xs.map (entryOfKey (tupleKind (mixKind P w)))∧(xs.map (·.1)).Nodup
 | .set S n=>h.SetOf (intKind P w) a S n
 | .ins C dx fs=>H dx=some (.own a)∧fs.length≤1000∧dx≠a∧h.get? a=some (PySem.W.instObj C dx) ∧
   ∃ mA,h.Ns1 dx mA∧(∀ f,RelO (fs.lookup f) (mA f))∧PySem.Within mA (fs.map (·.1))
 | .own _=>∃ o,h.get? a=some o
 | .xd fs=>∃ mA,h.Ns1 a mA∧∀ f,RelO (fs.lookup f) (mA f)
 | .rng lo hi=>∃ t u v,h.get? a=some { cls:=.type "range",data:=.fields #[.int lo t,.int hi u,.int 1 v] }
 | .frz o u=>h.get? a=some o∧ObjOk H h a u
 | .tbl ps=>h.get? a=some { cls:=.none,data:=.fields ps }
 | .met f x=>h.get? a=some (PySem.W.methodObj (.ref f) (.ref x))
 | .ext φ=>φ h∧(∃ o,h.get? a=some o)∧∀ h1 h2:Heap,φ h1→(∀ o,h1.get? a=some o→h2.get? a=some o)→φ h2
def HOk (H:Hp) (h:Heap):Prop:=∀ a o,H a=some o→ObjOk P w H h a o
end
section
variable {P:Program} {w:World} {H H':Hp} {h h':Heap} {a:Addr} {o:HO}
theorem ObjOk.lt (x:ObjOk P w H h a o):a<h.objs.size:=by
 cases o with
 | lst xs=>obtain ⟨_,_,_,_,e⟩:=x;exact Heap.lt_size e
 | tup xs=>obtain ⟨_,_,_,p⟩:=x;exact p.lt
 | dK kvs=>obtain ⟨_,_,_,_,o,_,_,e,_⟩:=x;exact Heap.lt_size e
 | dT kvs=>obtain ⟨_,_,_,_,o,_,_,e,_⟩:=x;exact Heap.lt_size e
 | set S n=>obtain ⟨o,_,_,_,e,_⟩:=x;exact Heap.lt_size e
 | ins C dx fs=>obtain ⟨_,_,_,e,_⟩:=x;exact Heap.lt_size e
 | own y=>obtain ⟨_,e⟩:=x;exact Heap.lt_size e
 | xd fs=>obtain ⟨_,⟨_,_,_,e,_⟩,_⟩:=x;exact Heap.lt_size e
 | rng lo hi=>obtain ⟨_,_,_,e⟩:=x;exact Heap.lt_size e
 | frz ob u=>obtain ⟨e,_⟩:=x;exact Heap.lt_size e
 | tbl ps=>exact Heap.lt_size (show h.get? a=some _ from x)
 | met f y=>exact Heap.lt_size (show h.get? a=some _ from x)
 | ext φ=>obtain ⟨_,⟨_,e⟩,_⟩:=x;exact Heap.lt_size e
theorem Paired.mapP {α β:Type} {F G:α→β→Prop}:∀ {l₁:List α} {l₂:List β},Paired F l₁ l₂→(∀ a b,F a b→G a b)→Paired G l₁ l₂
 | _,_,.nil,_=>.nil
 | _,_,.cons r t,f=>.cons (f _ _ r) (Paired.mapP t f)
theorem ObjOk.stay (x:ObjOk P w H h a o) (k:∀ b u,(b=a∨H b=some (.own a))→h.get? b=some u→h'.get? b=some u)
  (ho:∀ b,H b=some (.own a)→H' b=some (.own a)) (ht:∀ b xs,H b=some (.tup xs)→H' b=some (.tup xs)):ObjOk P w H' h' a o:=by
 induction o with
 | lst xs=>obtain ⟨z,its,n,r,e⟩:=x;exact ⟨z,its,n,r,k _ _ (.inl rfl) e⟩
 | tup xs=>obtain ⟨z,its,r,ob,e,c⟩:=x;exact ⟨z,its,r,ob,k _ _ (.inl rfl) e,c⟩
 | dK kvs=>obtain ⟨z,y,vs,r,ob,es,ep,e,c⟩:=x;exact ⟨z,y,vs,r,ob,es,ep,k _ _ (.inl rfl) e,c⟩
 | dT kvs =>
  obtain ⟨z,y,xs,r,ob,es,ep,e,c⟩:=x
  exact ⟨z,y,xs,Paired.mapP r fun p q z=>⟨z.1,ht _ _ z.2.1,z.2.2⟩,ob,es,ep,k _ _ (.inl rfl) e,c⟩
 | set S n=>obtain ⟨ob,es,ep,t,e,c⟩:=x;exact ⟨ob,es,ep,t,k _ _ (.inl rfl) e,c⟩
 | ins C dx fs =>
  obtain ⟨d,z,ne,e,mA,⟨od,es,ep,e2,c⟩,r⟩:=x
  exact ⟨ho _ d,z,ne,k _ _ (.inl rfl) e,mA,⟨od,es,ep,k _ _ (.inr d) e2,c⟩,r⟩
 | own y=>obtain ⟨ob,e⟩:=x;exact ⟨ob,k _ _ (.inl rfl) e⟩
 | xd fs=>obtain ⟨mA,⟨od,es,ep,e,c⟩,r⟩:=x;exact ⟨mA,⟨od,es,ep,k _ _ (.inl rfl) e,c⟩,r⟩
 | rng lo hi=>obtain ⟨t,u,v,e⟩:=x;exact ⟨t,u,v,k _ _ (.inl rfl) e⟩
 | frz ob u ih=>obtain ⟨e,q⟩:=x;exact ⟨k _ _ (.inl rfl) e,ih q⟩
 | tbl ps =>
  have e:h.get? a=some { cls:=.none,data:=.fields ps }:=x
  show h'.get? a=some { cls:=.none,data:=.fields ps }
  exact k a _ (.inl rfl) e
 | met f y =>
  have e:h.get? a=some (PySem.W.methodObj (.ref f) (.ref y)):=x
  show h'.get? a=some (PySem.W.methodObj (.ref f) (.ref y))
  exact k a _ (.inl rfl) e
 | ext φ=>obtain ⟨p,⟨o,e⟩,st⟩:=x;exact ⟨st _ _ p fun o q=>k _ _ (.inl rfl) q,⟨o,k _ _ (.inl rfl) e⟩,st⟩
theorem HOk.lt (x:HOk P w H h) (e:H a=some o):a<h.objs.size:=(x a o e).lt
theorem HOk.fresh (x:HOk P w H h) (e:h.objs.size≤a):H a=none:=by
 cases q:H a with
 | none=>rfl
 | some u=>exact absurd (Nat.lt_of_lt_of_le (x.lt q) e) (Nat.lt_irrefl _)
theorem HOk.kept (x:HOk P w H h) (k:∀ b u,h.get? b=some u→h'.get? b=some u):HOk P w H h':=fun a o e =>
 (x a o e).stay (fun b u _ q=>k b u q) (fun _ q=>q) fun _ _ q=>q
theorem HOk.laid (x:HOk P w H h) (k:∀ b u,h.get? b=some u→h'.get? b=some u) (hp:h.objs.size≤a) (new:ObjOk P w (upd H a o) h' a o):HOk P w (upd H a o) h':=fun b u e=>by
 have hn:=x.fresh hp
 by_cases hb:b=a
 ·subst hb;rw [upd_same] at e;cases e;exact new
 ·rw [upd_ne hb] at e
  exact (x b u e).stay (fun c v _ q=>k c v q) (fun c q=>by rw [upd_ne (ne_of_none q hn)];exact q) fun c xs q=>by rw [upd_ne (ne_of_none q hn)];exact q
end
def Rd (H:Hp) (a:Addr) (u:HO):Prop:=H a=some u∨∃ o,H a=some (.frz o u)
theorem Rd.ok {P:Program} {w:World} {H:Hp} {h:Heap} {a:Addr} {u:HO} (r:Rd H a u) (x:HOk P w H h):ObjOk P w H h a u:=by
 rcases r with r | ⟨o,r⟩
 ·exact x a u r
 ·obtain ⟨_,q⟩:=x a _ r
  exact q
def Mut:Option HO→Prop
 | some (.lst _)=>True
 | some (.dK _)=>True
 | some (.dT _)=>True
 | some (.set _ _)=>True
 | some (.ins _ _ _)=>True
 | some (.ext _)=>True
 | _=>False
section
variable {P:Program} {w:World} {H:Hp} {h h':Heap} {x e:Addr} {o':HO}
theorem HOk.write (ok:HOk P w H h) (mu:Mut (H x)) (he:e=x∨H e=some (.own x)) (k:∀ b u,b≠e→h.get? b=some u→h'.get? b=some u) (heo:∃ u,h'.get? e=some u)
  (new:ObjOk P w (upd H x o') h' x o'):HOk P w (upd H x o') h':=fun b u q=>by
 have nown:∀ c y,H c=some (.own y)→c≠x:=fun c y r z=>by subst z;rw [r] at mu;exact mu
 have ntup:∀ c xs,H c=some (.tup xs)→c≠x:=fun c xs r z=>by subst z;rw [r] at mu;exact mu
 by_cases hb:b=x
 ·subst hb;rw [upd_same] at q;cases q;exact new
 ·rw [upd_ne hb] at q
  by_cases hbe:b=e
  ·have q':H b=some (.own x):=by
    rcases he with z | z
    ·exact absurd (hbe.trans z) hb
    ·rw [hbe];exact z
   rw [q] at q';cases q'
   obtain ⟨v,hv⟩:=heo
   exact ⟨v,by rw [hbe];exact hv⟩
  ·refine (ok b u q).stay (fun c v hc r=>k c v ?_ r) (fun c r=>by rw [upd_ne (nown c b r)];exact r) fun c xs r=>by rw [upd_ne (ntup c xs r)];exact r
   rcases hc with rfl | hc
   ·exact hbe
   ·rintro rfl
    rcases he with z | z
    ·exact nown c b hc z
    ·rw [hc] at z;cases z;exact hb rfl
end
structure Un (fs ex:List Addr) (H H':Hp) (h h':Heap):Prop where
 keep:∀ b o,h.get? b=some o→H b=none→b ∉ fs→b ∉ ex→h'.get? b=some o
 slot:∀ b o,h.get? b=some o→H b=none→b∈fs→b ∉ ex→∃ sl,h'.get? b=some { o with slots:=sl }
 free:∀ b o,h.get? b=some o→H b=none→b ∉ ex→H' b=none
 there:∀ b o,h.get? b=some o→b ∉ ex→∃ o',h'.get? b=some o'
 tups:∀ b xs,H b=some (.tup xs)→H' b=some (.tup xs)
 frzs:∀ b o u,H b=some (.frz o u)→H' b=some (.frz o u)
 tbls:∀ b ps,H b=some (.tbl ps)→∃ more,H' b=some (.tbl (ps++more))
section
variable {fs fs' ex ex':List Addr} {H H1 H2:Hp} {h h1 h2 h':Heap} {a x e:Addr} {o:HO}
theorem Un.any (u:Un fs ex H H1 h h1) {b:Addr} {ob:Obj} (q:h.get? b=some ob) (n:H b=none) (hx:b ∉ ex):∃ sl,h1.get? b=some { ob with slots:=sl }:=by
 by_cases hb:b∈fs
 ·exact u.slot b ob q n hb hx
 ·exact ⟨ob.slots,u.keep b ob q n hb hx⟩
theorem Un.kept (k:∀ b u,h.get? b=some u→h'.get? b=some u):Un fs ex H H h h' :=
 ⟨fun b ob q _ _ _=>k b ob q,fun b ob q _ _ _=>⟨ob.slots,k b ob q⟩,fun _ _ _ n _=>n,fun b ob q _=>⟨ob,k b ob q⟩,fun _ _ q=>q,fun _ _ _ q=>q,fun _ ps q=>⟨#[],by rw [q];simp⟩⟩
theorem Un.refl:Un fs ex H H h h:=Un.kept fun _ _ q=>q
theorem Un.laid (k:∀ b u,h.get? b=some u→h'.get? b=some u) (hp:h.objs.size≤a) (hn:H a=none):Un fs ex H (upd H a o) h h' where
 keep:=fun b u q _ _ _=>k b u q
 slot:=fun b u q _ _ _=>⟨u.slots,k b u q⟩
 free:=fun b u q n _=>by rw [upd_ne (Nat.ne_of_lt (Nat.lt_of_lt_of_le (Heap.lt_size q) hp))];exact n
 there:=fun b u q _=>⟨u,k b u q⟩
 tups:=fun b xs q=>by rw [upd_ne (ne_of_none q hn)];exact q
 frzs:=fun b u xs q=>by rw [upd_ne (ne_of_none q hn)];exact q
 tbls:=fun b ps q=>⟨#[],by rw [upd_ne (ne_of_none q hn),q];simp⟩
theorem Un.write (mu:Mut (H x)) (he:e=x∨H e=some (.own x)) (k:∀ b u,b≠e→h.get? b=some u→h'.get? b=some u) (heo:∃ u,h'.get? e=some u):Un fs ex H (upd H x o) h h':=by
 have hx:∀ b,H b=none→b≠x:=fun b n z=>by subst z;rw [n] at mu;exact mu
 have hb:∀ b,H b=none→b≠e:=fun b n z=>by
  subst z
  rcases he with r | r
  ·exact hx b n r
  ·rw [n] at r;cases r
 have hm:∀ b u,H b=some u→¬ Mut (some u)→b≠x:=fun b u q nm z=>by subst z;rw [q] at mu;exact nm mu
 refine ⟨fun b u q n _ _=>k b u (hb b n) q,fun b u q n _ _=>⟨u.slots,k b u (hb b n) q⟩,fun b u q n _=>by rw [upd_ne (hx b n)];exact n,fun b u q _=>?_,
  fun b xs q=>by rw [upd_ne (hm b _ q fun z=>z)];exact q,fun b u xs q=>by rw [upd_ne (hm b _ q fun z=>z)];exact q,fun b ps q=>⟨#[],by rw [upd_ne (hm b _ q fun z=>z),q];simp⟩⟩
 by_cases hbe:b=e
 ·subst hbe;exact heo
 ·exact ⟨u,k b u hbe q⟩
end
def trk (h:Heap) (H:Hp):List Addr:=(List.range h.objs.size).filter fun a=>(H a).isSome
def hidT (h:Heap) (H:Hp):Heap:=PySem.W.hideAll h (trk h H)
theorem hidT_size (h:Heap) (H:Hp):(hidT h H).objs.size=h.objs.size:=PySem.W.hideAll_size _ _
theorem hidT_get {h:Heap} {H:Hp} {b:Addr} {o:Obj} (e:h.get? b=some o) (n:H b=none):(hidT h H).get? b=some o :=
 PySem.W.hideAll_get _ e fun hm=>by
  have q:(H b).isSome=true:=(List.mem_filter.mp hm).2
  rw [n] at q;simp at q
theorem of_hidT {h:Heap} {H:Hp} {b:Addr} {o:Obj} (e:(hidT h H).get? b=some o):h.get? b=some o∧H b=none:=by
 have e':h.get? b=some o:=PySem.W.of_hideAll (trk h H) e
 refine ⟨e',?_⟩
 cases q:H b with
 | none=>rfl
 | some x =>
  have hm:b∈trk h H:=List.mem_filter.mpr ⟨List.mem_range.mpr (Heap.lt_size e'),by simp [q]⟩
  have z:(hidT h H).get? b=none:=PySem.W.hideAll_none (trk h H) hm
  rw [z] at e;cases e
def allNews (g h:Heap) (L:Addr):List (Addr×Obj):=(List.range h.objs.size).filterMap fun a=>if a=L∨(g.get? a).isSome=true then none else (h.get? a).map fun o=>(a,o)
def rest (g h:Heap) (L d:Addr):List (Addr×Obj):=(allNews g h L).filter fun p=>decide (p.1≠d)
end L2
namespace L2
open PySem PySem.Spec PyProof.Rows
structure Mod (K:PySem.W.Frag) (mg:Str→Option Value) (base:Heap):Prop where
 kin:K.In base
 glob:base.Ns mainGlobals mg
 blt:∃ mb,base.Ns builtinsNs mb∧∀ x:Str,x ≠ "__name__"→mb x=bootBuiltins x
 nolimit:base.NoLimit
structure Cx where
 prog:Program
 w:World
 K:PySem.W.Frag
 mg:Str→Option Value
 base:Heap
 A:Around
 N:List Str
 s₀:Shared
 H₀:Hp
 env:Env
 outer:List Env
 stack:List Env
 ex:List Addr
 fn:Str→Bool
 calm:Bool
 pn:List (Addr×Obj)
 xe:Value→Shared→Prop
def frs (l:List Env):List Addr:=l.filterMap (·.frame)
abbrev Cx.fs (X:Cx):List Addr:=frs X.outer
def Vis (sc:Scope) (x:Str):Prop:=sc.names.lookup x=some .local∨sc.names.lookup x=some .cell∨sc.names.lookup x=some .free
def Loc (sc:Scope) (x:Str):Prop:=sc.names.lookup x=some .local∨sc.names.lookup x=some .cell
def Look (env:Env) (h:Heap) (m:Str→Option Value) (x:Str) (u:Value):Prop :=
 (env.kindOf x=some .local∧m x=some u)∨((env.kindOf x=some .cell∨env.kindOf x=some .free)∧∃ c,env.cells.lookup x=some c∧h.IsCell c (some u))
structure Cx.Ok (X:Cx):Prop where
 mod:Mod X.K X.mg X.base
 kind:X.env.scope.kind=.function
 glob:X.env.globals=mainGlobals
 blt:X.env.builtins=builtinsNs
 above:X.s₀.heap.objs.size≤X.env.locals
 inj:∀ x y c,X.env.cells.lookup x=some c→X.env.cells.lookup y=some c→x=y
 has:∀ x,(X.env.kindOf x=some .cell∨X.env.kindOf x=some .free)→∃ c,X.env.cells.lookup x=some c
 cab:∀ x c,X.fn x=true→X.env.cells.lookup x=some c→X.s₀.heap.objs.size≤c
 hd:X.calm=true→X.A.handled=none
 frames:X.A.frames=some X.stack
 stk:X.stack=X.outer∨(X.stack=X.env::X.outer∧X.env.frame=some X.env.locals)
 exf:∀ b∈X.ex,b≠X.env.locals∧∀ x c,X.env.cells.lookup x=some c→c≠b
 bs:∀ b o,X.base.get? b=some o→X.s₀.heap.get? b=some o∧X.H₀ b=none
 bsz:X.base.objs.size≤X.s₀.heap.objs.size
 noex:∀ b o,X.base.get? b=some o→b ∉ X.ex
 exfs:∀ b∈X.ex,b ∉ X.fs
 funs:X.s₀.heap.FunFrames X.base X.outer
 frf:∀ b∈X.fs,X.H₀ b=none
structure Inv (X:Cx) (pins:List (Addr×Obj)) (σ:List (Option V)) (H:Hp) (s:Shared):Prop where
 ok:X.Ok
 os:s.os=X.s₀.os
 bare:AllBare s.gens
 base:Un X.fs X.ex X.H₀ H X.s₀.heap s.heap
 loc:∃ m,s.heap.Ns X.env.locals m∧∀ (i:Nat) (x:Str) (v:V),X.N[i]? = some x→σ[i]? = some (some v)→Vis X.env.scope x→∃ u,RelV v u∧Look X.env s.heap m x u
 cell:∀ x c,X.env.cells.lookup x=some c→∃ v,s.heap.IsCell c v
 free:H X.env.locals=none
 freeC:∀ x c,X.env.cells.lookup x=some c→H c=none
 pin:∀ p∈X.pn++pins,s.heap.get? p.1=some p.2∧H p.1=none∧p.1≠X.env.locals∧p.1 ∉ X.fs∧∀ v,p.2.data≠.cell v
 hok:HOk X.prog X.w H s.heap
 len:σ.length=X.N.length
section
variable {X:Cx} {pins:List (Addr×Obj)} {σ:List (Option V)} {H H':Hp} {s:Shared} {h':Heap}
theorem Cx.Ok.nofr (ok:X.Ok) {b:Addr} {o:Obj} (e:X.base.get? b=some o):b ∉ X.fs:=fun hb=>by
 have:=(ok.funs.mem hb).1
 rw [e] at this;cases this
theorem Inv.bs (I:Inv X pins σ H s):∀ b o,X.base.get? b=some o→s.heap.get? b=some o∧H b=none:=fun b o e =>
 ⟨I.base.keep b o (I.ok.bs b o e).1 (I.ok.bs b o e).2 (I.ok.nofr e) (I.ok.noex b o e),I.base.free b o (I.ok.bs b o e).1 (I.ok.bs b o e).2 (I.ok.noex b o e)⟩
theorem Inv.bk (I:Inv X pins σ H s):∀ b o,X.base.get? b=some o→s.heap.get? b=some o:=fun b o e=>(I.bs b o e).1
theorem Inv.mod (I:Inv X pins σ H s):Mod X.K X.mg X.base:=I.ok.mod
theorem Inv.kIn (I:Inv X pins σ H s):X.K.In s.heap:=I.ok.mod.kin.keeps I.bk
theorem Inv.lt (I:Inv X pins σ H s):X.env.locals<s.heap.objs.size:=let ⟨_,hn,_⟩:=I.loc;hn.lt
theorem Inv.sz (I:Inv X pins σ H s):X.s₀.heap.objs.size≤s.heap.objs.size:=Nat.le_trans I.ok.above (Nat.le_of_lt I.lt)
theorem Inv.nofs (I:Inv X pins σ H s) {a:Addr} (h:s.heap.objs.size≤a):a ∉ X.fs:=fun hb=>by
 obtain ⟨_,o,ho,_⟩:=I.ok.funs.mem hb
 exact absurd (Nat.lt_of_lt_of_le (Heap.lt_size ho) (Nat.le_trans I.sz h)) (Nat.lt_irrefl _)
theorem Inv.cne (I:Inv X pins σ H s):∀ x c,X.env.cells.lookup x=some c→c≠X.env.locals:=fun x c e z=>by
 obtain ⟨v,o,ho,hd⟩:=I.cell x c e
 obtain ⟨m,⟨o',es,ep,ho',hd',_⟩,_⟩:=I.loc
 rw [z,ho'] at ho;cases ho;rw [hd'] at hd;cases hd
theorem Inv.funs (I:Inv X pins σ H s):s.heap.FunFrames X.base X.outer:=by
 have all:∀ (l:List Env),(∀ b∈frs l,b∈X.fs)→X.s₀.heap.FunFrames X.base l→s.heap.FunFrames X.base l:=by
  intro l
  induction l with
  | nil=>intro _ _;trivial
  | cons env r ih =>
   intro hs hl
   obtain ⟨hk,⟨L,o,hf,hn,ho,hd⟩,hr⟩:=hl
   have hL:L∈X.fs:=hs L (by unfold frs;rw [List.filterMap_cons,hf];exact List.mem_cons_self)
   obtain ⟨sl,e⟩:=I.base.slot L o ho (I.ok.frf L hL) hL fun z=>I.ok.exfs L z hL
   exact ⟨hk,⟨L,_,hf,hn,e,hd⟩,ih (fun b hb=>hs b (by unfold frs;rw [List.filterMap_cons,hf];exact List.mem_cons_of_mem _ hb)) hr⟩
 exact all X.outer (fun _ hb=>hb) I.ok.funs
theorem Inv.stack (I:Inv X pins σ H s):s.heap.FunFrames X.base X.stack:=by
 rcases I.ok.stk with e | ⟨e,hf⟩
 ·rw [e];exact I.funs
 ·rw [e]
  obtain ⟨m,hn,_⟩:=I.loc
  refine .cons (by rw [I.ok.kind];decide) hf hn ?_ I.funs
  exact Heap.get?_none_of_le (Nat.le_trans I.ok.bsz I.ok.above)
theorem Inv.stkSub (I:Inv X pins σ H s):∀ b∈frs X.stack,b∈X.env.locals::X.fs:=fun b hb=>by
 rcases I.ok.stk with e | ⟨e,hf⟩
 ·rw [e] at hb;exact List.mem_cons_of_mem _ hb
 ·rw [e] at hb
  unfold frs at hb
  rw [List.filterMap_cons,hf] at hb
  exact hb
theorem Inv.stkFree (I:Inv X pins σ H s):∀ b∈frs X.stack,H b=none:=fun b hb=>by
 rcases List.mem_cons.mp (I.stkSub b hb) with e | hb
 ·rw [e];exact I.free
 ·obtain ⟨_,o,ho,_⟩:=I.ok.funs.mem hb
  exact I.base.free b o ho (I.ok.frf b hb) fun z=>I.ok.exfs b z hb
theorem Inv.step {g':Array GenState} {t':Nat} {d':Drawn} {ch:List Addr} (I:Inv X pins σ H s)
  (hch:∀ b∈ch,(b∈X.ex∨X.s₀.heap.objs.size≤b)∧b≠X.env.locals∧(∀ x c,X.env.cells.lookup x=some c→c≠b)∧∀ p∈X.pn++pins,p.1≠b)
  (keep:∀ b o,b≠X.env.locals→b ∉ X.fs→b ∉ ch→s.heap.get? b=some o→H b=none→h'.get? b=some o)
  (slot:∀ b o,b≠X.env.locals→b∈X.fs→b ∉ ch→s.heap.get? b=some o→H b=none→∃ sl,h'.get? b=some { o with slots:=sl }) (free:∀ b o,b ∉ ch→s.heap.get? b=some o→H b=none→H' b=none)
  (there:∀ b o,b ∉ ch→s.heap.get? b=some o→∃ o',h'.get? b=some o')
  (tups:∀ b xs,H b=some (.tup xs)→H' b=some (.tup xs)) (frzs:∀ b o u,H b=some (.frz o u)→H' b=some (.frz o u)) (tbls:∀ b ps,H b=some (.tbl ps)→∃ more,H' b=some (.tbl (ps++more)))
  (ns:∀ m,s.heap.Ns X.env.locals m→h'.Ns X.env.locals m) (hok:HOk X.prog X.w H' h') (hg:AllBare g') :
  Inv X pins σ H' { s with heap:=h',gens:=g',drawn:=d',toks:=t' }:=by
 have neL:∀ b o,X.s₀.heap.get? b=some o→b≠X.env.locals:=fun b o e=>Nat.ne_of_lt (Nat.lt_of_lt_of_le (Heap.lt_size e) I.ok.above)
 have neC:∀ b o,X.s₀.heap.get? b=some o→b ∉ X.ex→b ∉ ch:=fun b o e hx hb=>by
  rcases (hch b hb).1 with z | z
  ·exact hx z
  ·exact absurd (Nat.lt_of_lt_of_le (Heap.lt_size e) z) (Nat.lt_irrefl _)
 have cellK:∀ x c,X.env.cells.lookup x=some c→∀ v,s.heap.IsCell c v→h'.IsCell c v:=fun x c e v ⟨o,ho,hd⟩=>by
  have nch:c ∉ ch:=fun z=>(hch c z).2.2.1 x c e rfl
  by_cases hc:c∈X.fs
  ·obtain ⟨sl,q⟩:=slot c o (I.cne x c e) hc nch ho (I.freeC x c e)
   exact ⟨_,q,hd⟩
  ·exact ⟨o,keep c o (I.cne x c e) hc nch ho (I.freeC x c e),hd⟩
 refine ⟨I.ok,I.os,hg,⟨fun b o e n hb hx=>?_,fun b o e n hb hx=>?_,fun b o e n hx=>?_,fun b o e hx=>?_,fun b xs e=>tups b xs (I.base.tups b xs e),fun b o xs e=>frzs b o xs (I.base.frzs b o xs e),fun b ps e=>?_⟩,?_,fun x c e=>?_,?_,fun x c e=>?_,fun p hp=>?_,hok,I.len⟩
 ·exact keep b o (neL b o e) hb (neC b o e hx) (I.base.keep b o e n hb hx) (I.base.free b o e n hx)
 ·obtain ⟨sl,e1⟩:=I.base.slot b o e n hb hx
  obtain ⟨sl',e2⟩:=slot b _ (neL b o e) hb (neC b o e hx) e1 (I.base.free b o e n hx)
  exact ⟨sl',e2⟩
 ·obtain ⟨o',e1⟩:=I.base.there b o e hx
  exact free b o' (neC b o e hx) e1 (I.base.free b o e n hx)
 ·obtain ⟨o',e1⟩:=I.base.there b o e hx
  exact there b o' (neC b o e hx) e1
 ·obtain ⟨m1,e1⟩:=I.base.tbls b ps e
  obtain ⟨m2,e2⟩:=tbls b _ e1
  exact ⟨m1++m2,by rw [e2,Array.append_assoc]⟩
 ·obtain ⟨m,hn,hl⟩:=I.loc
  refine ⟨m,ns m hn,fun i x v e1 e2 e3=>?_⟩
  obtain ⟨u,r,l⟩:=hl i x v e1 e2 e3
  refine ⟨u,r,?_⟩
  rcases l with l | ⟨k,c,e,z⟩
  ·exact .inl l
  ·exact .inr ⟨k,c,e,cellK x c e _ z⟩
 ·obtain ⟨v,z⟩:=I.cell x c e
  exact ⟨v,cellK x c e v z⟩
 ·obtain ⟨m,⟨o,_,_,ho,_⟩,_⟩:=I.loc
  exact free _ o (fun z=>(hch _ z).2.1 rfl) ho I.free
 ·obtain ⟨v,o,ho,hd⟩:=I.cell x c e
  exact free c o (fun z=>(hch c z).2.2.1 x c e rfl) ho (I.freeC x c e)
 ·obtain ⟨e,n,ne,nf,d⟩:=I.pin p hp
  have nch:p.1 ∉ ch:=fun z=>(hch p.1 z).2.2.2 p hp rfl
  exact ⟨keep p.1 p.2 ne nf nch e n,free p.1 p.2 nch e n,ne,nf,d⟩
theorem Inv.un {t':Nat} (I:Inv X pins σ H s) (u:Un X.fs [] H H' s.heap h') (hok:HOk X.prog X.w H' h'):Inv X pins σ H' { s with heap:=h',toks:=t' }:=by
 obtain ⟨m,⟨o,es,ep,ho,r⟩,_⟩:=id I.loc
 obtain ⟨sl,hL⟩:=u.any ho I.free (by simp)
 exact I.step (g':=s.gens) (d':=s.drawn) (ch:=[]) (fun _ z=>nomatch z) (fun b o _ hb _ e n=>u.keep b o e n hb (by simp)) (fun b o _ hb _ e n=>u.slot b o e n hb (by simp)) (fun b o _ e n=>u.free b o e n (by simp)) (fun b o _ e=>u.there b o e (by simp)) u.tups u.frzs u.tbls (fun m' hm=>by
  obtain ⟨o',es',ep',ho',r'⟩:=hm
  rw [ho] at ho';cases ho'
  exact ⟨_,es',ep',hL,r'⟩) hok I.bare
theorem Inv.call {g':Array GenState} {t':Nat} {d':Drawn} {ch:List Addr} (I:Inv X pins σ H s) (u:Un (frs X.stack) ch H H' s.heap h') (hok:HOk X.prog X.w H' h') (hg:AllBare g')
  (hch:∀ b∈ch,(b∈X.ex∨X.s₀.heap.objs.size≤b)∧b≠X.env.locals∧(∀ x c,X.env.cells.lookup x=some c→c≠b)∧∀ p∈X.pn++pins,p.1≠b) :
  Inv X pins σ H' { s with heap:=h',gens:=g',drawn:=d',toks:=t' }:=by
 obtain ⟨m,⟨o,es,ep,ho,r⟩,_⟩:=id I.loc
 obtain ⟨sl,hL⟩:=u.any ho I.free fun z=>(hch _ z).2.1 rfl
 exact I.step (ch:=ch) hch (fun b o hL hb hc e n=>u.keep b o e n (fun z=>(List.mem_cons.mp (I.stkSub b z)).elim hL hb) hc) (fun b o _ _ hc e n=>u.any e n hc) (fun b o hc e n=>u.free b o e n hc) (fun b o hc e=>u.there b o e hc) u.tups u.frzs u.tbls (fun m' hm=>by
  obtain ⟨o',es',ep',ho',r'⟩:=hm
  rw [ho] at ho';cases ho'
  exact ⟨_,es',ep',hL,r'⟩) hok hg
theorem Inv.turned {t':Nat} {it:Addr} (I:Inv X pins σ H s) (k:∀ b o,b≠it→s.heap.get? b=some o→h'.get? b=some o) (hn:H it=none) (hL:it≠X.env.locals)
  (h1:it∈X.ex∨X.s₀.heap.objs.size≤it) (h2:∀ x c,X.env.cells.lookup x=some c→c≠it) (h3:∀ p∈X.pn++pins,p.1≠it):Inv X pins σ H { s with heap:=h',toks:=t' }:=by
 have nit:∀ b u,H b=some u→b≠it:=fun b u e z=>by rw [z,hn] at e;cases e
 refine I.step (g':=s.gens) (d':=s.drawn) (ch:=[it]) (fun b hb=>?_) (fun b o _ _ hc e _=>k b o (fun z=>hc (by simp [z])) e) (fun b o _ _ hc e _=>⟨o.slots,k b o (fun z=>hc (by simp [z])) e⟩) (fun _ _ _ _ n=>n)
  (fun b o hc e=>⟨o,k b o (fun z=>hc (by simp [z])) e⟩) (fun _ _ e=>e) (fun _ _ _ e=>e) (fun b ps e=>⟨#[],by rw [e];simp⟩) (fun m hm=>?_) (fun b u e=>?_) I.bare
 ·have e:b=it:=by simpa using hb
  subst e
  exact ⟨h1,hL,h2,h3⟩
 ·obtain ⟨o,es,ep,ho,r⟩:=hm
  exact ⟨o,es,ep,k _ o (Ne.symm hL) ho,r⟩
 ·refine (I.hok b u e).stay (fun c v hc q=>k c v ?_ q) (fun _ q=>q) fun _ _ q=>q
  rcases hc with z | z
  ·rw [z];exact nit b u e
  ·exact nit c _ z
theorem Inv.tok (I:Inv X pins σ H s) (t:Nat):Inv X pins σ H { s with toks:=t }:=I.un (h':=s.heap) (t':=t) Un.refl I.hok
theorem Inv.kept {t':Nat} (I:Inv X pins σ H s) (k:∀ b u,s.heap.get? b=some u→h'.get? b=some u):Inv X pins σ H { s with heap:=h',toks:=t' }:=I.un (Un.kept k) (I.hok.kept k)
theorem Inv.laid {a:Addr} {o:HO} {t':Nat} (I:Inv X pins σ H s) (k:∀ b u,s.heap.get? b=some u→h'.get? b=some u) (hp:s.heap.objs.size≤a) (new:ObjOk X.prog X.w (upd H a o) h' a o) :
  Inv X pins σ (upd H a o) { s with heap:=h',toks:=t' }:=I.un (Un.laid k hp (I.hok.fresh hp)) (I.hok.laid k hp new)
theorem Inv.write {x e:Addr} {o:HO} {t':Nat} (I:Inv X pins σ H s) (mu:Mut (H x)) (he:e=x∨H e=some (.own x)) (k:∀ b u,b≠e→s.heap.get? b=some u→h'.get? b=some u) (heo:∃ u,h'.get? e=some u)
  (new:ObjOk X.prog X.w (upd H x o) h' x o):Inv X pins σ (upd H x o) { s with heap:=h',toks:=t' }:=I.un (Un.write mu he k heo) (I.hok.write mu he k heo new)
theorem Inv.pins_of {pins':List (Addr×Obj)} (I:Inv X pins σ H s) (h:∀ p∈pins',s.heap.get? p.1=some p.2∧H p.1=none∧p.1≠X.env.locals∧p.1 ∉ X.fs∧∀ v,p.2.data≠.cell v):Inv X pins' σ H s :=
 ⟨I.ok,I.os,I.bare,I.base,I.loc,I.cell,I.free,I.freeC,fun p hp=>(List.mem_append.mp hp).elim (fun z=>I.pin p (List.mem_append_left _ z)) (h p),I.hok,I.len⟩
theorem nodup_ix {N:List Str} (hN:N.Nodup) {i j:Nat} {x:Str} (a:N[i]? = some x) (b:N[j]? = some x):i=j:=by
 obtain ⟨h1,e1⟩:=List.getElem?_eq_some_iff.mp a
 obtain ⟨h2,e2⟩:=List.getElem?_eq_some_iff.mp b
 exact (List.getElem_inj hN).mp (e1.trans e2.symm)
theorem store_ok2 {M:Model} {A:Around} {E:Value→Shared→Prop} {i:Nat} {x:Str} {v:V} {u:Value} {Q:Unit→Shared→Prop} (I:Inv X pins σ H s) (hN:X.N.Nodup) (hi:X.N[i]? = some x) (hx:Loc X.env.scope x) (r:RelV v u)
  (h:∀ s',Inv X pins (σ.set i (some v)) H s'→(∃ a,Heap.SameBut a s.heap s'.heap∧(a=X.env.locals∨X.env.cells.lookup x=some a))→Q () s') (hf:X.fn x=true∨X.env.scope.names.lookup x=some .local:=by first | exact .inl rfl | exact .inr rfl | assumption):wpAny M A (storeName X.env x u) Q E s:=by
 obtain ⟨m,hn,hl⟩:=id I.loc
 have hcls:(X.env.scope.kind == .class || (X.env.scope.kind == .module && X.env.locals != X.env.globals))=false:=by rw [I.ok.kind];rfl
 have hiσ:i<σ.length:=by rw [I.len];exact (List.getElem?_eq_some_iff.mp hi).1
 have cne:=I.cne
 have tracked:∀ {a:Addr} {h':Heap},(∃ o,s.heap.get? a=some o∧H a=none)→Heap.SameBut a s.heap h'→HOk X.prog X.w H h':=fun {a h'} ha hs b ob e=>by
  obtain ⟨_,_,hfree⟩:=ha
  refine (I.hok b ob e).stay (fun c w' hc q=>(hs.2 c ?_).trans q) (fun _ q=>q) fun _ _ q=>q
  rintro rfl
  rcases hc with rfl | hc
  ·rw [hfree] at e;cases e
  ·rw [hfree] at hc;cases hc
 rcases hx with hk | hk
 ·refine wpAny_storeName_local hk hn (fun h' hn' hs=>?_) hcls
  obtain ⟨oL,_,_,hoL,_⟩:=id hn
  refine h _ ⟨I.ok,I.os,I.bare,⟨fun b o e n hb hx=>?_,fun b o e n hb hx=>?_,I.base.free,fun b o e hx=>?_,I.base.tups,I.base.frzs,I.base.tbls⟩,⟨_,hn',fun j y v' e1 e2 e3=>?_⟩,fun y c e=>?_,I.free,I.freeC,fun p hp=>?_,tracked ⟨oL,hoL,I.free⟩ hs,by simpa using I.len⟩ ⟨_,hs,.inl rfl⟩
  ·exact (hs.2 b (Nat.ne_of_lt (Nat.lt_of_lt_of_le (Heap.lt_size e) I.ok.above))).trans (I.base.keep b o e n hb hx)
  ·obtain ⟨sl,e1⟩:=I.base.slot b o e n hb hx
   exact ⟨sl,(hs.2 b (Nat.ne_of_lt (Nat.lt_of_lt_of_le (Heap.lt_size e) I.ok.above))).trans e1⟩
  ·obtain ⟨o',e1⟩:=I.base.there b o e hx
   exact ⟨o',(hs.2 b (Nat.ne_of_lt (Nat.lt_of_lt_of_le (Heap.lt_size e) I.ok.above))).trans e1⟩
  ·by_cases hj:j=i
   ·subst hj
    rw [hi] at e1;cases e1
    rw [List.getElem?_set_self hiσ] at e2
    cases e2
    exact ⟨u,r,.inl ⟨hk,by simp⟩⟩
   ·rw [List.getElem?_set_ne (Ne.symm hj)] at e2
    obtain ⟨u',r',q⟩:=hl j y v' e1 e2 e3
    refine ⟨u',r',?_⟩
    rcases q with ⟨k,e⟩ | ⟨k,c,e,z⟩
    ·refine .inl ⟨k,?_⟩
     have:y≠x:=fun e=>hj (nodup_ix hN e1 (e ▸ hi))
     simp [this,e]
    ·exact .inr ⟨k,c,e,z.sameBut hs (cne y c e)⟩
  ·obtain ⟨w',z⟩:=I.cell y c e
   exact ⟨w',z.sameBut hs (cne y c e)⟩
  ·obtain ⟨e,n,ne,nf,d⟩:=I.pin p hp
   exact ⟨(hs.2 p.1 ne).trans e,n,ne,nf,d⟩
 ·have hfn:X.fn x=true:=by
   rcases hf with z | z
   ·exact z
   ·rw [z] at hk;cases hk
  obtain ⟨c,hc⟩:=I.ok.has x (.inl hk)
  obtain ⟨w',z⟩:=I.cell x c hc
  refine wpAny_storeName_cell I.ok.kind hk hc z (fun h' hc' hs=>?_)
  obtain ⟨oc,hoc,hocd⟩:=id z
  refine h { s with heap:=h' } ⟨I.ok,I.os,I.bare,⟨fun b o e n hb hx=>?_,fun b o e n hb hx=>?_,I.base.free,fun b o e hx=>?_,I.base.tups,I.base.frzs,I.base.tbls⟩,⟨m,hn.sameBut hs (Ne.symm (cne x c hc)),fun j y v' e1 e2 e3=>?_⟩,fun y c' e=>?_,I.free,I.freeC,fun p hp=>?_,tracked ⟨oc,hoc,I.freeC x c hc⟩ hs,by simpa using I.len⟩ ⟨c,hs,.inr hc⟩
  ·exact (hs.2 b (Nat.ne_of_lt (Nat.lt_of_lt_of_le (Heap.lt_size e) (I.ok.cab x c hfn hc)))).trans (I.base.keep b o e n hb hx)
  ·obtain ⟨sl,e1⟩:=I.base.slot b o e n hb hx
   exact ⟨sl,(hs.2 b (Nat.ne_of_lt (Nat.lt_of_lt_of_le (Heap.lt_size e) (I.ok.cab x c hfn hc)))).trans e1⟩
  ·obtain ⟨o',e1⟩:=I.base.there b o e hx
   exact ⟨o',(hs.2 b (Nat.ne_of_lt (Nat.lt_of_lt_of_le (Heap.lt_size e) (I.ok.cab x c hfn hc)))).trans e1⟩
  ·by_cases hj:j=i
   ·subst hj
    rw [hi] at e1;cases e1
    rw [List.getElem?_set_self hiσ] at e2
    cases e2
    exact ⟨u,r,.inr ⟨.inl hk,c,hc,hc'⟩⟩
   ·rw [List.getElem?_set_ne (Ne.symm hj)] at e2
    obtain ⟨u',r',q⟩:=hl j y v' e1 e2 e3
    refine ⟨u',r',?_⟩
    rcases q with q | ⟨k,c',e,z'⟩
    ·exact .inl q
    ·refine .inr ⟨k,c',e,z'.sameBut hs ?_⟩
     rintro rfl
     exact hj (nodup_ix hN e1 (I.ok.inj _ _ _ e hc ▸ hi))
  ·by_cases hcc:c' = c
   ·subst hcc;exact ⟨_,hc'⟩
   ·obtain ⟨w2,z2⟩:=I.cell y c' e
    exact ⟨w2,z2.sameBut hs hcc⟩
  ·obtain ⟨e,n,ne,nf,d⟩:=I.pin p hp
   refine ⟨(hs.2 p.1 ?_).trans e,n,ne,nf,d⟩
   intro q
   rw [q,hoc] at e
   have q':oc=p.2:=Option.some.inj e
   exact d w' (by rw [←q'];exact hocd)
theorem store_ok {M:Model} {A:Around} {E:Value→Shared→Prop} {i:Nat} {x:Str} {v:V} {u:Value} {Q:Unit→Shared→Prop} (I:Inv X pins σ H s) (hN:X.N.Nodup) (hi:X.N[i]? = some x) (hx:Loc X.env.scope x) (r:RelV v u)
  (h:∀ s',Inv X pins (σ.set i (some v)) H s'→Q () s') (hf:X.fn x=true∨X.env.scope.names.lookup x=some .local:=by first | exact .inl rfl | exact .inr rfl | assumption):wpAny M A (storeName X.env x u) Q E s :=
 store_ok2 I hN hi hx r (fun s' I' _=>h s' I') hf
theorem Inv.call' {s':Shared} {ch:List Addr} (I:Inv X pins σ H s) (ho:s'.os=s.os) (u:Un (frs X.stack) ch H H' s.heap s'.heap) (hok:HOk X.prog X.w H' s'.heap) (hg:AllBare s'.gens)
  (hch:∀ b∈ch,(b∈X.ex∨X.s₀.heap.objs.size≤b)∧b≠X.env.locals∧(∀ x c,X.env.cells.lookup x=some c→c≠b)∧∀ p∈X.pn++pins,p.1≠b):Inv X pins σ H' s':=by
 obtain ⟨h',g',d',t',o'⟩:=s'
 have e:o' = s.os:=ho
 subst e
 exact I.call (g':=g') (t':=t') (d':=d') u hok hg hch
end
abbrev XK:=Value→Option Addr→Hp→Prop
abbrev St:=List (Option V)
abbrev VK:=V→Hp→Prop
abbrev TE:=St→Hp→VK→Prop
abbrev TT:=St→Hp→(Bool→Hp→Prop)→Prop
abbrev TA:=St→Hp→(List V→Hp→Prop)→Prop
structure Ends where
 nx:St→Hp→Prop
 rt:VK
 bk:St→Hp→Prop:=fun _ _=>False
 ct:St→Hp→Prop:=fun _ _=>False
abbrev TS:=Ends→St→Hp→Prop
def EP (X:Cx) (pins:List (Addr×Obj)) (σ:St) (Q:VK) (u:Value) (s':Shared):Prop:=∃ v H',Inv X pins σ H' s'∧RelV v u∧Q v H'
def TP (X:Cx) (pins:List (Addr×Obj)) (σ:St) (Q:Bool→Hp→Prop) (b:Bool) (s':Shared):Prop:=∃ H',Inv X pins σ H' s'∧Q b H'
def AP (X:Cx) (pins:List (Addr×Obj)) (σ:St) (Q:List V→Hp→Prop) (us:List Value) (s':Shared):Prop:=∃ vs H',Inv X pins σ H' s'∧Vals vs us∧Q vs H'
def SP (X:Cx) (pins:List (Addr×Obj)) (D:Ends) (f:Flow) (s':Shared):Prop :=
 match f with
 | .next=>∃ σ' H',Inv X pins σ' H' s'∧D.nx σ' H'
 | .brk=>∃ σ' H',Inv X pins σ' H' s'∧D.bk σ' H'
 | .cont=>∃ σ' H',Inv X pins σ' H' s'∧D.ct σ' H'
 | .ret u=>∃ v σ' H',Inv X pins σ' H' s'∧RelV v u∧D.rt v H'
def PE (X:Cx) (e:Expr) (t:TE):Prop :=
 ∀ (pins:List (Addr×Obj)) (s:Shared) (σ:St) (H:Hp) (Q:VK),Inv X pins σ H s→t σ H Q→wpAny (model X.prog X.w) X.A (eval e X.env) (EP X pins σ Q) X.xe s
def PT (X:Cx) (e:Expr) (t:TT):Prop :=
 ∀ (pins:List (Addr×Obj)) (s:Shared) (σ:St) (H:Hp) (Q:Bool→Hp→Prop),Inv X pins σ H s→t σ H Q→wpAny (model X.prog X.w) X.A (isTrue e X.env (eval e X.env)) (TP X pins σ Q) X.xe s
def PW (X:Cx) (e:Expr) (t:TT):Prop :=
 ∀ (whole:Sem Value) (pins:List (Addr×Obj)) (s:Shared) (σ:St) (H:Hp) (Q:Bool→Hp→Prop),Inv X pins σ H s→t σ H Q→wpAny (model X.prog X.w) X.A (isTrue e X.env whole) (TP X pins σ Q) X.xe s
theorem PW.pt {X:Cx} {e:Expr} {t:TT} (h:PW X e t):PT X e t:=h _
def PA (X:Cx) (es:List Expr) (t:TA):Prop :=
 ∀ (pos:Pos) (pins:List (Addr×Obj)) (s:Shared) (σ:St) (H:Hp) (Q:List V→Hp→Prop),Inv X pins σ H s→t σ H Q→wpAny (model X.prog X.w) X.A (spliced (backTo pos (starEach es X.env))) (AP X pins σ Q) X.xe s
def PS (X:Cx) (st:Stmt) (t:TS):Prop :=
 ∀ (pins:List (Addr×Obj)) (s:Shared) (σ:St) (H:Hp) (D:Ends),Inv X pins σ H s→t D σ H→wpAny (model X.prog X.w) X.A (exec st X.env) (SP X pins D) X.xe s
def PSs (X:Cx) (st:List Stmt) (t:TS):Prop :=
 ∀ (pins:List (Addr×Obj)) (s:Shared) (σ:St) (H:Hp) (D:Ends),Inv X pins σ H s→t D σ H→wpAny (model X.prog X.w) X.A (execs st X.env) (SP X pins D) X.xe s
theorem thn {α:Type} {t:Sem α} {Q Q':α→Shared→Prop} {M:Model} {A:Around} {E:Value→Shared→Prop} {s:Shared} (h:wpAny M A t Q E s) (hQ:∀ a s,Q a s→Q' a s):wpAny M A t Q' E s:=wpAny_mono h hQ fun _ _ x=>x
end L2
namespace L2
open PySem PySem.Spec PyProof.Rows
section
variable {X:Cx}
def tVar (i:Nat):TE:=fun σ H Q=>∃ v,σ[i]? = some (some v)∧Q v H
def tC (v:V):TE:=fun _ H Q=>Q v H
theorem pe_var {i:Nat} {x:Str} {pos:Pos} (hN:X.N[i]? = some x) (hv:Vis X.env.scope x) (hd:(x == ("__debug__":Str))=false:=by decide) (hcd:(x == ("__classdict__":Str))=false:=by decide):PE X (.Name x pos) (tVar i):=by
 intro pins s σ H Q I h
 obtain ⟨v,e,h⟩:=h
 obtain ⟨m,hn,hl⟩:=I.loc
 obtain ⟨u,r,l⟩:=hl i x v hN e hv
 have fin:EP X pins σ Q u s:=⟨v,H,I,r,h⟩
 rcases l with ⟨hk,hm⟩ | ⟨hk,c,hc,hcell⟩
 ·exact wpAny_Name (wpAny_loadName_local I.ok.kind hk hn hm fin) hd
 ·rcases hk with hk | hk
  ·exact wpAny_Name (wpAny_loadName_cell I.ok.kind hk hc hcell fin) hd
  ·exact wpAny_Name (wpAny_loadName_free I.ok.kind hk hc hcell fin hcd) hd
theorem pe_int {i j pos}:PE X (.Constant (.int i) j pos) (tC (.int i)):=fun _ _ _ H _ I h=>wpAny_Constant_int ⟨.int i,H,I.tok _,⟨_,rfl⟩,h⟩
theorem pe_bl {b j pos}:PE X (.Constant (.bool b) j pos) (tC (.bl b)):=fun _ _ _ H _ I h=>Constant_bool ⟨.bl b,H,I,rfl,h⟩
theorem Zx {j pos}:PE X (.Constant .none j pos) (tC .non):=fun _ _ _ H _ I h=>Constant_none ⟨.non,H,I,rfl,h⟩
theorem Zy {x j pos}:PE X (.Constant (.str x) j pos) (tC (.str x)):=fun _ _ _ H _ I h=>Calls.Constant_str ⟨.str x,H,I.tok _,⟨_,rfl⟩,h⟩
def Gl (X:Cx) (x:Str):Prop:=X.env.kindOf x=some .globalImplicit
theorem ld_glob {E:Value→Shared→Prop} {pins:List (Addr×Obj)} {s:Shared} {σ:St} {H:Hp} {x:Str} {u:Value} {pos:Pos} {Q:Value→Shared→Prop} (I:Inv X pins σ H s) (hg:Gl X x) (hm:X.mg x=some u) (h:Q u s)
  (hd:(x == ("__debug__":Str))=false:=by decide):wpAny (model X.prog X.w) X.A (eval (.Name x pos) X.env) Q E s :=
 Calls.Name_function_global I.ok.kind hg (Calls.loadGlobal_global (by rw [I.ok.glob];exact I.mod.glob.keeps I.bk) hm h) hd
theorem ld_blt {E:Value→Shared→Prop} {pins:List (Addr×Obj)} {s:Shared} {σ:St} {H:Hp} {x:Str} {u:Value} {pos:Pos} {Q:Value→Shared→Prop} (I:Inv X pins σ H s) (hg:Gl X x) (hm:X.mg x=none) (hv:bootBuiltins x=some u) (h:Q u s)
  (hn:x ≠ "__name__":=by decide) (hd:(x == ("__debug__":Str))=false:=by decide):wpAny (model X.prog X.w) X.A (eval (.Name x pos) X.env) Q E s:=by
 obtain ⟨mb,h1,h2⟩:=I.mod.blt
 exact Calls.Name_function_global I.ok.kind hg (Calls.loadGlobal_builtin (by rw [I.ok.glob];exact I.mod.glob.keeps I.bk) hm (by rw [I.ok.blt];exact h1.keeps I.bk) ((h2 x hn).trans hv) h) hd
theorem Xc {x:Str} {v:V} {u:Value} {pos:Pos} (hg:Gl X x) (hm:X.mg x=some u) (r:RelV v u) (hd:(x == ("__debug__":Str))=false:=by decide):PE X (.Name x pos) (tC v) :=
 fun _ _ _ H _ I h=>ld_glob I hg hm ⟨v,H,I,r,h⟩ hd
theorem Xd {x:Str} {v:V} {u:Value} {pos:Pos} (hg:Gl X x) (hm:X.mg x=none) (hv:bootBuiltins x=some u) (r:RelV v u) (hn:x ≠ "__name__":=by decide) (hd:(x == ("__debug__":Str))=false:=by decide):PE X (.Name x pos) (tC v) :=
 fun _ _ _ H _ I h=>ld_blt I hg hm hv ⟨v,H,I,r,h⟩ hn hd
variable {a b:Expr} {ta tb:TE} {pos:Pos}
def PC (X:Cx) (op:CmpOp) (a b:Expr) (t:TE):Prop :=
 ∀ (pins:List (Addr×Obj)) (s:Shared) (σ:St) (H:Hp) (Q:VK),Inv X pins σ H s→t σ H Q →
  wpAny (model X.prog X.w) X.A (eval a X.env) (fun v s₁=>wpAny (model X.prog X.w) X.A (eval b X.env) (fun u s₂=>wpAny (model X.prog X.w) X.A (compareOp op v u) (EP X pins σ Q) X.xe s₂) X.xe s₁) X.xe s
theorem nobehind (b:Expr) {op:CmpOp} (h:op≠.In) (h2:op≠.NotIn):behindInMarks op b=false:=by
 have e1:(op == CmpOp.In)=false:=by cases op <;> first | rfl | exact absurd rfl h
 have e2:(op == CmpOp.NotIn)=false:=by cases op <;> first | rfl | exact absurd rfl h2
 cases b <;> simp [behindInMarks,e1,e2]
def tB (t:TE):TT:=fun σ H Q=>t σ H fun x H1=>∃ c,x=.bl c∧Q c H1
theorem pt_cmp {op:CmpOp} {t:TE} (h:PC X op a b t) (h1:behindInMarks op b=false:=by first | exact nobehind _ (by decide) (by decide) | rfl):PT X (.Compare a [op] [b] pos) (tB t):=by
 intro pins s σ H Q I hw
 refine wpAny_isTrue_Compare1 (thn (h pins s σ H _ I hw) fun v s1 h1=>thn h1 fun u s2 h2=>thn h2 fun c s3 ⟨x,H1,I1,r1,q1⟩=>?_) h1
 obtain ⟨d,rfl,q⟩:=q1
 cases r1
 exact wpAny_truthy_bool ⟨H1,I1,q⟩
theorem Zz {e:Expr} {t:TE} (h:PE X e t) (he:∀ whole,isTrue e X.env whole=(do let v ←whole;standAt e.pos;holding [v] (truthy v)):=by intro _;rfl):PT X e (tB t):=by
 intro pins s σ H Q I hw
 refine isTrue_plain (thn (h pins s σ H _ I hw) fun v s1 ⟨x,H1,I1,r1,q1⟩=>?_) (he _)
 obtain ⟨d,rfl,q⟩:=q1
 cases r1
 exact wpAny_truthy_bool ⟨H1,I1,q⟩
variable {tA tB':TT} {rest:List Expr}
def ZC (t u:TT):TT:=fun σ H Q=>t σ H fun c H1=>if c=true then u σ H1 Q else Q false H1
def tOr (t u:TT):TT:=fun σ H Q=>t σ H fun c H1=>if c=true then Q true H1 else u σ H1 Q
def ZD (t:TT):TT:=fun σ H Q=>t σ H fun c H1=>Q (!c) H1
theorem pw_and1 (ha:PT X a tA):PW X (.BoolOp .And [a] pos) tA:=by
 intro wh pins s σ H Q I h
 refine isTrue_and (thn (ha pins s σ H Q I h) fun c s1 e=>?_)
 cases c with
 | true=>exact isTrue_and_nil e
 | false=>exact e
theorem pw_or1 (ha:PT X a tA):PW X (.BoolOp .Or [a] pos) tA:=by
 intro wh pins s σ H Q I h
 refine isTrue_or (thn (ha pins s σ H Q I h) fun c s1 e=>?_)
 cases c with
 | false=>exact isTrue_or_nil e
 | true=>exact e
theorem pw_and (ha:PT X a tA) (hb:PW X (.BoolOp .And (b::rest) pos) tB'):PW X (.BoolOp .And (a::b::rest) pos) (ZC tA tB'):=by
 intro wh pins s σ H Q I h
 refine isTrue_and (thn (ha pins s σ H _ I h) fun c s1 ⟨H1,I1,q1⟩=>?_)
 cases c with
 | true=>exact hb wh pins s1 σ H1 Q I1 q1
 | false=>exact ⟨H1,I1,q1⟩
theorem pw_or (ha:PT X a tA) (hb:PW X (.BoolOp .Or (b::rest) pos) tB'):PW X (.BoolOp .Or (a::b::rest) pos) (tOr tA tB'):=by
 intro wh pins s σ H Q I h
 refine isTrue_or (thn (ha pins s σ H _ I h) fun c s1 ⟨H1,I1,q1⟩=>?_)
 cases c with
 | true=>exact ⟨H1,I1,q1⟩
 | false=>exact hb wh pins s1 σ H1 Q I1 q1
theorem ZF (ha:PT X a tA):PT X (.UnaryOp .Not a pos) (ZD tA):=by
 intro pins s σ H Q I h
 exact isTrue_not (ha pins s σ H (fun c H1=>Q (!c) H1) I h)
def SQ (ta tb:TE):TE:=fun σ H Q=>ta σ H fun x H1=>∃ c,x=.bl c∧if c=true then tb σ H1 Q else Q (.bl false) H1
def SX (ta:TE):TE:=fun σ H Q=>ta σ H fun x H1=>∃ c,x=.bl c∧Q (.bl (!c)) H1
theorem ZG {op} {t:TE} (h:PE X a t):PE X (.BoolOp op [a] pos) t:=fun pins s σ H Q I hw=>BoolOp_one (h pins s σ H Q I hw)
theorem ZJ (ha:PE X a ta) (hb:PE X (.BoolOp .And (b::rest) pos) tb):PE X (.BoolOp .And (a::b::rest) pos) (SQ ta tb):=by
 intro pins s σ H Q I h
 refine BoolOp_and (thn (ha pins s σ H _ I h) fun v s1 ⟨x,H1,I1,r1,q1⟩=>?_)
 obtain ⟨c,rfl,q1⟩:=q1
 cases r1
 refine wpAny_truthy_bool ?_
 cases c with
 | true=>exact hb pins s1 σ H1 Q I1 q1
 | false=>exact ⟨.bl false,H1,I1,rfl,q1⟩
theorem ZK (ha:PE X a ta):PE X (.UnaryOp .Not a pos) (SX ta):=by
 intro pins s σ H Q I h
 refine UnaryOp_ (thn (ha pins s σ H _ I h) fun v s1 ⟨x,H1,I1,r1,q1⟩=>?_)
 obtain ⟨c,rfl,q1⟩:=q1
 cases r1
 exact not_of (wpAny_truthy_bool ⟨.bl (!c),H1,I1,rfl,q1⟩)
def tIf (t:TT) (ta tb:TE):TE:=fun σ H Q=>t σ H fun c H1=>if c=true then ta σ H1 Q else tb σ H1 Q
theorem S5 {c:Expr} (hc:PT X c tA) (ha:PE X a ta) (hb:PE X b tb):PE X (.IfExp c a b pos) (tIf tA ta tb):=by
 intro pins s σ H Q I h
 refine wpAny_IfExp (thn (hc pins s σ H _ I h) fun d s1 ⟨H1,I1,q1⟩=>?_)
 cases d with
 | true=>exact ha pins s1 σ H1 Q I1 q1
 | false=>exact hb pins s1 σ H1 Q I1 q1
end
end L2
namespace L2
open PySem PySem.Spec PyProof.Rows
def SqL (K:PySem.W.Frag) (H:Hp) (a:Addr) (xs:List V):Prop :=
 Rd H a (.lst xs) ∨
  ∃ (o:Obj) (its:Array Value) (n:Nat),K.lookup a=some o∧o.cls=.type "list"∧o.dict=none∧o.data=.seq its n∧its.size≤sizeLine∧Vals xs its.toList
def SqT (K:PySem.W.Frag) (H:Hp) (a:Addr) (xs:List V):Prop :=
 Rd H a (.tup xs) ∨
  ∃ (o:Obj) (its:Array Value) (n:Nat),K.lookup a=some o∧o.cls=.type "tuple"∧o.data=.seq its n∧its.size≤sizeLine∧Vals xs its.toList
def absV:Value→Option V
 | .none=>some .non
 | .bool b=>some (.bl b)
 | .int i _=>some (.int i)
 | .str x _=>some (.str x)
 | .bytes b _=>some (.byt b)
 | .float b _=>some (.flt b)
 | .ref a=>some (.ref a)
 | .type n=>some (.ty n)
 | _=>none
theorem RelV.abs {x:V} {u:Value} (r:RelV x u):absV u=some x:=by
 cases x with
 | non=>cases r;rfl
 | bl _=>cases r;rfl
 | int _=>obtain ⟨t,rfl⟩:=r;rfl
 | str _=>obtain ⟨t,rfl⟩:=r;rfl
 | byt _=>obtain ⟨t,rfl⟩:=r;rfl
 | flt _=>obtain ⟨t,rfl⟩:=r;rfl
 | ref _=>cases r;rfl
 | ty _=>cases r;rfl
theorem RelV.inj {x y:V} {u:Value} (r:RelV x u) (q:RelV y u):x=y:=Option.some.inj (r.abs.symm.trans q.abs)
theorem Vals.inj:∀ {xs ys:List V} {us:List Value},Vals xs us→Vals ys us→xs=ys
 | _,_,_,.nil,.nil=>rfl
 | _,_,_,.cons r t,.cons r' t'=>by rw [r.inj r',Vals.inj t t']
section
variable {X:Cx} {pins:List (Addr×Obj)} {σ:St} {H:Hp} {s:Shared} {a:Addr} {xs ys:List V}
theorem SqL.of {K:PySem.W.Frag} (h:H a=some (.lst xs)):SqL K H a xs:=.inl (.inl h)
theorem SqT.of {K:PySem.W.Frag} (h:H a=some (.tup xs)):SqT K H a xs:=.inl (.inl h)
theorem Inv.list (I:Inv X pins σ H s) (h:SqL X.K H a xs):∃ its:List Value,Vals xs its∧PlainL s.heap a its.toArray∧xs.length≤sizeLine:=by
 rcases h with h | ⟨o,its,n,hk,hc,hd,hs,hz,r⟩
 ·obtain ⟨z,its,n,r,e⟩:=h.ok I.hok
  exact ⟨its,r,⟨_,n,e,rfl,rfl,rfl⟩,z⟩
 ·refine ⟨its.toList,r,⟨o,n,I.kIn a o hk,hc,hd,by simpa using hs⟩,?_⟩
  have e:=r.length
  simp only [Array.length_toList] at e
  omega
theorem Inv.tuple (I:Inv X pins σ H s) (h:SqT X.K H a xs):∃ its:List Value,Vals xs its∧IsTup s.heap a its.toArray∧xs.length≤sizeLine:=by
 rcases h with h | ⟨o,its,n,hk,hc,hs,hz,r⟩
 ·obtain ⟨z,its,r,p⟩:=h.ok I.hok
  exact ⟨its,r,p,z⟩
 ·refine ⟨its.toList,r,⟨o,I.kIn a o hk,hc,n,by simpa using hs⟩,?_⟩
  have e:=r.length
  simp only [Array.length_toList] at e
  omega
theorem Inv.list_inj (I:Inv X pins σ H s) (h:SqL X.K H a xs) (h':SqL X.K H a ys):xs=ys:=by
 obtain ⟨its,r,⟨o,n,e,_,_,d⟩,_⟩:=I.list h
 obtain ⟨its',r',⟨o',n',e',_,_,d'⟩,_⟩:=I.list h'
 rw [e] at e';cases e'
 rw [d] at d'
 injection d' with d1 _
 have:its=its':=by simpa using congrArg Array.toList d1
 subst this
 exact r.inj r'
theorem Inv.Rh (I:Inv X pins σ H s) (h:SqT X.K H a xs) (h':SqT X.K H a ys):xs=ys:=by
 obtain ⟨its,r,⟨o,e,_,n,d⟩,_⟩:=I.tuple h
 obtain ⟨its',r',⟨o',e',_,n',d'⟩,_⟩:=I.tuple h'
 rw [e] at e';cases e'
 rw [d] at d'
 injection d' with d1 _
 have:its=its':=by simpa using congrArg Array.toList d1
 subst this
 exact r.inj r'
end
abbrev Cx.wish (X:Cx) (E:Value→Shared→Prop):Cx:={ X with xe:=E }
abbrev Cx.nox (X:Cx):Cx:=X.wish fun _ _=>False
theorem Cx.Ok.wish {X:Cx} (ok:X.Ok) (E:Value→Shared→Prop):(X.wish E).Ok :=
 ⟨ok.mod,ok.kind,ok.glob,ok.blt,ok.above,ok.inj,ok.has,ok.cab,ok.hd,ok.frames,ok.stk,ok.exf,ok.bs,ok.bsz,ok.noex,ok.exfs,ok.funs,ok.frf⟩
theorem Cx.Ok.unwish {X:Cx} {E:Value→Shared→Prop} (ok:(X.wish E).Ok):X.Ok :=
 ⟨ok.mod,ok.kind,ok.glob,ok.blt,ok.above,ok.inj,ok.has,ok.cab,ok.hd,ok.frames,ok.stk,ok.exf,ok.bs,ok.bsz,ok.noex,ok.exfs,ok.funs,ok.frf⟩
section
variable {X:Cx} {pins:List (Addr×Obj)} {σ:St} {H:Hp} {s:Shared} {E:Value→Shared→Prop}
theorem Inv.wish (I:Inv X pins σ H s) (E:Value→Shared→Prop):Inv (X.wish E) pins σ H s:=⟨I.ok.wish E,I.os,I.bare,I.base,I.loc,I.cell,I.free,I.freeC,I.pin,I.hok,I.len⟩
theorem Inv.unwish (I:Inv (X.wish E) pins σ H s):Inv X pins σ H s:=⟨I.ok.unwish,I.os,I.bare,I.base,I.loc,I.cell,I.free,I.freeC,I.pin,I.hok,I.len⟩
theorem SP.unwish {D:Ends} {f:Flow} {s':Shared} (h:SP (X.wish E) pins D f s'):SP X pins D f s':=by
 cases f with
 | next=>obtain ⟨σ',H',I,q⟩:=h;exact ⟨σ',H',I.unwish,q⟩
 | brk=>obtain ⟨σ',H',I,q⟩:=h;exact ⟨σ',H',I.unwish,q⟩
 | cont=>obtain ⟨σ',H',I,q⟩:=h;exact ⟨σ',H',I.unwish,q⟩
 | ret u=>obtain ⟨v,σ',H',I,r,q⟩:=h;exact ⟨v,σ',H',I.unwish,r,q⟩
theorem PSs.nox {st:List Stmt} {t:TS} (h:PSs X.nox st t):PSs X st t:=fun pins s σ H D I hw =>
 wpAny_mono (h pins s σ H D (I.wish _) hw) (fun _ _ q=>q.unwish) fun _ _ z=>False.elim z
end
section
variable {X:Cx} {st:Stmt} {rest:List Stmt} {t u:TS} {e:Expr} {te:TE} {pos:Pos}
def tNext:TS:=fun D σ H=>D.nx σ H
def tSeq (t u:TS):TS:=fun D σ H=>t { D with nx:=u D } σ H
theorem pss_nil:PSs X [] tNext:=fun _ _ σ H _ I h=>wpAny_execs_nil ⟨σ,H,I,h⟩
theorem pss_cons (h1:PS X st t) (h2:PSs X rest u):PSs X (st::rest) (tSeq t u):=by
 intro pins s σ H D I h
 refine wpAny_execs_cons (thn (h1 pins s σ H { D with nx:=u D } I h) fun f s1 q=>?_)
 cases f with
 | next =>
  obtain ⟨σ',H',I',q⟩:=q
  exact h2 pins s1 σ' H' D I' q
 | ret v=>exact q
 | brk=>exact q
 | cont=>exact q
theorem pss_one (h1:PS X st t):PSs X [st] t:=by
 intro pins s σ H D I h
 refine wpAny_execs_cons (thn (h1 pins s σ H D I h) fun f s1 q=>?_)
 cases f with
 | next=>exact wpAny_execs_nil q
 | ret v=>exact q
 | brk=>exact q
 | cont=>exact q
theorem Inv.quiet {pins:List (Addr×Obj)} {σ:St} {H:Hp} {s:Shared} (I:Inv X pins σ H s):interactive X.env=false:=by simp [interactive,I.ok.kind]
def tDrop (te:TE):TS:=fun D σ H=>te σ H fun _ H1=>D.nx σ H1
theorem ps_expr (he:PE X e te) (hs:swapsWith e none pos.line X.env=pure false:=by rfl):PS X (.Expr e pos) (tDrop te):=by
 intro pins s σ H D I h
 exact wpAny_Expr_any (thn (he pins s σ H _ I h) fun v s1 ⟨x,H1,I1,r1,q1⟩=>⟨σ,H1,I1,q1⟩) I.quiet hs
def tRet (te:TE):TS:=fun D σ H=>te σ H D.rt
theorem ps_ret (he:PE X e te):PS X (.Return (some e) pos) (tRet te):=by
 intro pins s σ H D I h
 exact wpAny_Return_some (thn (he pins s σ H _ I h) fun v s1 ⟨x,H1,I1,r1,q1⟩=>⟨x,σ,H1,I1,r1,q1⟩)
def tIfS (c:TT) (t u:TS):TS:=fun D σ H=>c σ H fun b H1=>if b=true then t D σ H1 else u D σ H1
theorem ps_if {c:Expr} {a b:List Stmt} {tc:TT} (hc:PT X c tc) (ha:PSs X a t) (hb:PSs X b u):PS X (.If c a b pos) (tIfS tc t u):=by
 intro pins s σ H D I h
 refine wpAny_If (thn (hc pins s σ H _ I h) fun d s1 ⟨H1,I1,q1⟩=>?_)
 cases d with
 | true=>exact ha pins s1 σ H1 D I1 q1
 | false=>exact hb pins s1 σ H1 D I1 q1
def S6:TS:=fun _ _ _=>False
theorem S7:PS X st S6:=fun _ _ _ _ _ _ h=>h.elim
end
abbrev TG:=V→St→Hp→(St→Hp→Prop)→Prop
abbrev Sw:=List V→St→Hp→(St→Hp→Prop)→Prop
def PG (X:Cx) (target:Expr) (t:TG):Prop :=
 ∀ (pins:List (Addr×Obj)) (s:Shared) (σ:St) (H:Hp) (v:V) (u:Value) (Q:St→Hp→Prop),Inv X pins σ H s→RelV v u→t v σ H Q →
  wpAny (model X.prog X.w) X.A (assign target X.env u) (fun _ s'=>∃ σ' H',Inv X pins σ' H' s'∧Q σ' H') X.xe s
def PGs (X:Cx) (ts:List Expr) (t:Sw):Prop :=
 ∀ (pins:List (Addr×Obj)) (s:Shared) (σ:St) (H:Hp) (vs:List V) (us:List Value) (Q:St→Hp→Prop),Inv X pins σ H s→Vals vs us→t vs σ H Q →
  wpAny (model X.prog X.w) X.A (assignInOrder ((assignEach ts X.env).map (·.2)) us) (fun _ s'=>∃ σ' H',Inv X pins σ' H' s'∧Q σ' H') X.xe s
abbrev GZ:=V→V→V→Hp→(Hp→Prop)→Prop
def S8 (X:Cx) (t:GZ):Prop :=
 ∀ (pins:List (Addr×Obj)) (s:Shared) (σ:St) (H:Hp) (o i v:V) (ov iv u:Value) (Q:Hp→Prop),Inv X pins σ H s→RelV o ov→RelV i iv→RelV v u→t o i v H Q →
  wpAny (model X.prog X.w) X.A (setItem ov iv u) (fun _ s'=>∃ H',Inv X pins σ H' s'∧Q H') X.xe s
abbrev S9:=V→V→Hp→VK→Prop
def ZL (X:Cx) (op:Operator) (t:S9):Prop :=
 ∀ (pins:List (Addr×Obj)) (s:Shared) (σ:St) (H:Hp) (x y:V) (v u:Value) (Q:VK),Inv X pins σ H s→RelV x v→RelV y u→t x y H Q →
  wpAny (model X.prog X.w) X.A (inplaceOp op v u) (EP X pins σ Q) X.xe s
section
variable {X:Cx} {pos:Pos}
def gName (i:Nat):TG:=fun v σ H Q=>Q (σ.set i (some v)) H
theorem pg_name {i:Nat} {x:Str} (hN:X.N.Nodup) (hi:X.N[i]? = some x) (hx:Loc X.env.scope x) (hf:X.fn x=true∨X.env.scope.names.lookup x=some .local:=by first | exact .inl rfl | exact .inr rfl | assumption):PG X (.Name x pos) (gName i):=by
 intro pins s σ H v u Q I r h
 exact wpAny_assign_Name (store_ok I hN hi hx r (fun s' I'=>⟨_,H,I',h⟩) hf)
def ZM:Sw:=fun vs σ H Q=>vs=[]∧Q σ H
def Tc (t:TG) (u:Sw):Sw:=fun vs σ H Q=>∃ v r,vs=v::r∧t v σ H fun σ' H'=>u r σ' H' Q
theorem Xe:PGs X [] ZM:=by
 intro pins s σ H vs us Q I r h
 obtain ⟨e,h⟩:=h
 subst e
 cases r
 exact assignInOrder_nil ⟨σ,H,I,h⟩
theorem Te {e:Expr} {es:List Expr} {t:TG} {u:Sw} (h1:PG X e t) (h2:PGs X es u)
  (hs:(assignEach (e::es) X.env).map (·.2)=assign e X.env::(assignEach es X.env).map (·.2):=by rfl):PGs X (e::es) (Tc t u):=by
 intro pins s σ H vs us Q I r h
 obtain ⟨v,vr,e1,h⟩:=h
 subst e1
 cases r with
 | cons r rr =>
  rw [hs]
  refine assignInOrder_cons (thn (h1 pins s σ H _ _ _ I r h) fun _ s1 ⟨σ1,H1,I1,q1⟩=>?_)
  exact h2 pins s1 σ1 H1 _ _ Q I1 rr q1
def ZP (K:PySem.W.Frag) (n:Nat) (t:Sw):TG:=fun v σ H Q=>∃ a xs,v=.ref a∧SqT K H a xs∧xs.length=n∧t xs σ H Q
theorem ZQ {es:List Expr} {k:Nat} {t:Sw} {n:Nat} (hc:X.calm=true) (h:PGs X es t)
  (hn:(assignEach es X.env).length=n:=by rfl) (hst:(assignEach es X.env).findIdx? (·.1)=none:=by rfl):PG X (.Tuple es k pos) (ZP X.K n t):=by
 intro pins s σ H v u Q I r hw
 obtain ⟨a,xs,e1,hq,hl,hw⟩:=hw
 subst e1
 cases r
 obtain ⟨its,rv,ht,hz⟩:=I.tuple hq
 refine assign_Tuple_tuple (I.ok.hd hc) ht (by simp [hn,←hl,rv.length]) hst fun h' hx=>?_
 have I1:Inv X pins σ H { s with heap:=h' }:=I.kept (t':=s.toks) fun b o e=>hx b o (Nat.ne_of_lt (Heap.lt_size e)) e
 exact h pins _ σ H xs _ Q I1 (by simpa using rv) hw
def ZR (to ti:TE) (t:GZ):TG:=fun v σ H Q=>to σ H fun o H1=>ti σ H1 fun i H2=>t o i v H2 fun H3=>Q σ H3
theorem ZS {o i:Expr} {to ti:TE} {t:GZ} (ho:PE X o to) (hi:PE X i ti) (hs:S8 X t)
  (ha:∀ v,assign (.Subscript o i pos) X.env v=(do
   let ov ←holding [v] (eval o X.env)
   let iv ←holding [v,ov] (eval i X.env)
   standAt pos
   holding [v,ov,iv] (setItem ov iv v)
   release [v,ov,iv] []):=by intro _;rfl):PG X (.Subscript o i pos) (ZR to ti t):=by
 intro pins s σ H v u Q I r h
 rw [ha]
 refine wpAny_bind (wpAny_holding (thn (ho pins s σ H _ I h) fun ov s1 ⟨x,H1,I1,r1,q1⟩=>?_))
 refine wpAny_bind (wpAny_holding (thn (hi pins s1 σ H1 _ I1 q1) fun iv s2 ⟨y,H2,I2,r2,q2⟩=>?_))
 refine wpAny_bind (wpAny_standAt (wpAny_bind (wpAny_holding (thn (hs pins s2 σ H2 x y v ov iv u _ I2 r1 r2 r q2) fun _ s3 ⟨H3,I3,q3⟩=>?_))))
 exact wpAny_release ⟨σ,H3,I3,q3⟩
def tAsg (te:TE) (g:TG):TS:=fun D σ H=>te σ H fun x H1=>g x σ H1 D.nx
theorem ZV {tg e:Expr} {te:TE} {g:TG} (he:PE X e te) (hg:PG X tg g) (hs:swapsWithSole [tg] e pos.line X.env=pure false:=by rfl) (hw:swappedStores [tg] e X.env=pure none:=by rfl)
  (h1:(assignEach [tg] X.env).map (·.2)=[assign tg X.env]:=by rfl):PS X (.Assign [tg] e pos) (tAsg te g):=by
 intro pins s σ H D I h
 refine wpAny_Assign_stores (thn (he pins s σ H _ I h) fun v s1 ⟨x,H1,I1,r1,q1⟩=>?_) hs hw
 rw [h1]
 exact thn (hg pins s1 σ H1 x v _ I1 r1 q1) fun _ s2 q=>q
theorem ps_set {i:Nat} {x:Str} {e:Expr} {te:TE} {pos':Pos} (hN:X.N.Nodup) (hi:X.N[i]? = some x) (hx:Loc X.env.scope x) (he:PE X e te) (hs:swapsWith e (some (.Name x pos')) pos.line X.env=pure false:=by rfl) (hf:X.fn x=true∨X.env.scope.names.lookup x=some .local:=by first | exact .inl rfl | exact .inr rfl | assumption) :
  PS X (.Assign [.Name x pos'] e pos) (tAsg te (gName i)):=by
 intro pins s σ H D I h
 refine wpAny_Assign_Name (thn (he pins s σ H _ I h) fun v s1 ⟨y,H1,I1,r1,q1⟩=>?_) hs
 exact store_ok I1 hN hi hx r1 (fun s2 I2=>⟨_,H1,I2,q1⟩) hf
def Tf (i:Nat) (te:TE) (ti:S9):TS:=fun D σ H=>∃ x,σ[i]? = some (some x)∧te σ H fun y H1=>ti x y H1 fun z H2=>D.nx (σ.set i (some z)) H2
theorem ZW {i:Nat} {x:Str} {e:Expr} {te:TE} {op:Operator} {ti:S9} {pos':Pos} (hN:X.N.Nodup) (hi:X.N[i]? = some x) (hx:Loc X.env.scope x) (he:PE X e te) (ho:ZL X op ti) (hf:X.fn x=true∨X.env.scope.names.lookup x=some .local:=by first | exact .inl rfl | exact .inr rfl | assumption) :
  PS X (.AugAssign (.Name x pos') op e pos) (Tf i te ti):=by
 intro pins s σ H D I h
 obtain ⟨v,e1,h⟩:=h
 obtain ⟨m,hn,hl⟩:=I.loc
 have vis:Vis X.env.scope x:=by rcases hx with k | k;exact .inl k;exact .inr (.inl k)
 obtain ⟨u,r,l⟩:=hl i x v hi e1 vis
 refine wpAny_AugAssign_Name ?_
 have go:wpAny (model X.prog X.w) X.A (eval e X.env) (fun w s₂=>wpAny (model X.prog X.w) X.A (inplaceOp op u w) (fun r s₃=>wpAny (model X.prog X.w) X.A (storeName X.env x r) (fun _=>SP X pins D .next) X.xe s₃) X.xe s₂) X.xe s:=by
  refine thn (he pins s σ H _ I h) fun w s1 ⟨y,H1,I1,r1,q1⟩=>?_
  refine thn (ho pins s1 σ H1 v y u w _ I1 r r1 q1) fun z s2 ⟨zv,H2,I2,r2,q2⟩=>?_
  exact store_ok I2 hN hi hx r2 (fun s3 I3=>⟨_,H2,I3,q2⟩) hf
 rcases l with ⟨hk,hm⟩ | ⟨hk,c,hc,hcell⟩
 ·exact wpAny_loadName_local I.ok.kind hk hn hm go
 ·rcases hk with hk | hk
  ·exact wpAny_loadName_cell I.ok.kind hk hc hcell go
  ·rcases hx with k | k
   ·have:X.env.scope.names.lookup x=some .free:=hk
    rw [k] at this;cases this
   ·have:X.env.scope.names.lookup x=some .free:=hk
    rw [k] at this;cases this
def Tg (to ti te:TE) (Ej:V→V→Hp→VK→Prop) (Xa:S9) (Ek:GZ):TS:=fun D σ H=>to σ H fun o H1=>ti σ H1 fun i H2=>Ej o i H2 fun x H3=>te σ H3 fun y H4=>Xa x y H4 fun z H5=>Ek o i z H5 fun H6=>D.nx σ H6
def Xf (X:Cx) (t:V→V→Hp→VK→Prop):Prop :=
 ∀ (pins:List (Addr×Obj)) (s:Shared) (σ:St) (H:Hp) (o i:V) (ov iv:Value) (Q:VK),Inv X pins σ H s→RelV o ov→RelV i iv→t o i H Q →
  wpAny (model X.prog X.w) X.A (getItem ov iv) (EP X pins σ Q) X.xe s
theorem Xg {o i e:Expr} {to ti te:TE} {Ej:V→V→Hp→VK→Prop} {Xa:S9} {Ek:GZ} {op:Operator} {tpos:Pos} (ho:PE X o to) (hi:PE X i ti) (hg:Xf X Ej) (he:PE X e te) (hp:ZL X op Xa) (hs:S8 X Ek)
  (ha:∀ ov iv new,augStore i ov iv new=(do holding [new,ov,iv] (setItem ov iv new);release [new,ov,iv] [];pure .next):=by intros;rfl):PS X (.AugAssign (.Subscript o i tpos) op e pos) (Tg to ti te Ej Xa Ek):=by
 intro pins s σ H D I h
 refine wpAny_AugAssign_SubscriptAny (thn (ho pins s σ H _ I h) fun ov s1 ⟨x1,H1,I1,r1,q1⟩=>?_) ha
 refine thn (hi pins s1 σ H1 _ I1 q1) fun iv s2 ⟨x2,H2,I2,r2,q2⟩=>?_
 refine thn (hg pins s2 σ H2 x1 x2 ov iv _ I2 r1 r2 q2) fun old s3 ⟨x3,H3,I3,r3,q3⟩=>?_
 refine thn (he pins s3 σ H3 _ I3 q3) fun v s4 ⟨x4,H4,I4,r4,q4⟩=>?_
 refine thn (hp pins s4 σ H4 x3 x4 old v _ I4 r3 r4 q4) fun new s5 ⟨x5,H5,I5,r5,q5⟩=>?_
 exact thn (hs pins s5 σ H5 x1 x2 x5 ov iv new _ I5 r1 r2 r5 q5) fun _ s6 ⟨H6,I6,q6⟩=>⟨σ,H6,I6,q6⟩
def ipI (f:Int→Int→Int):S9:=fun x y H Q=>∃ i j,x=.int i∧y=.int j∧Q (.int (f i j)) H
theorem sJ:ZL X .Add (ipI fun i j=>i+j):=by
 intro pins s σ H x y v u Q I r1 r2 h
 obtain ⟨i,j,e1,e2,q⟩:=h
 subst e1;subst e2
 obtain ⟨t,rfl⟩:=r1
 obtain ⟨t',rfl⟩:=r2
 exact iadd_int ⟨.int _,H,I.tok _,⟨_,rfl⟩,q⟩
theorem K6:ZL X .Sub (ipI fun i j=>i - j):=by
 intro pins s σ H x y v u Q I r1 r2 h
 obtain ⟨i,j,e1,e2,q⟩:=h
 subst e1;subst e2
 obtain ⟨t,rfl⟩:=r1
 obtain ⟨t',rfl⟩:=r2
 exact isub_int ⟨.int _,H,I.tok _,⟨_,rfl⟩,q⟩
end
section
variable {X:Cx} {pos:Pos}
def K7 (c:TT) (tb:TS):TS:=fun D σ H=>∃ W:Nat→St→Hp→Prop,(∃ m,W m σ H)∧∀ m σ H,W m σ H →
 c σ H fun b H1=>if b=true then ∃ N:St→Hp→Prop,(∀ σ' H',N σ' H'→∃ m',m'<m∧W m' σ' H')∧tb { D with nx:=N,ct:=N,bk:=D.nx } σ H1 else D.nx σ H1
theorem Ti {c:Expr} {body:List Stmt} {tc:TT} {tb:TS} (hp:PassesOwn (model X.prog X.w) X.A X.env X.xe) (hc:PT X c tc) (hb:PSs X body tb):PS X (.While c body [] pos) (K7 tc tb):=by
 intro pins s σ H D I h
 obtain ⟨W,⟨m0,w0⟩,turn⟩:=h
 refine wpAny_While (codeAny_whileLoop (fun n s'=>∃ σ' H',Inv X pins σ' H' s'∧W n σ' H') ?_ m0 ⟨σ,H,I,w0⟩)
 rintro n s1 ⟨σ1,H1,I1,w1⟩
 refine wpAny_passesOwn hp (thn (hc pins s1 σ1 H1 _ I1 (turn n σ1 H1 w1)) fun b s2 ⟨H2,I2,q2⟩=>?_)
 cases b with
 | true =>
  obtain ⟨N,hN,q2⟩:=q2
  rw [if_pos rfl]
  refine wpAny_passesOwn hp (thn (hb pins s2 σ1 H2 _ I2 q2) fun f s3 q3=>?_)
  cases f with
  | next =>
   obtain ⟨σ3,H3,I3,n3⟩:=q3
   obtain ⟨m',hm,w3⟩:=hN σ3 H3 n3
   exact ⟨m',hm,σ3,H3,I3,w3⟩
  | cont =>
   obtain ⟨σ3,H3,I3,n3⟩:=q3
   obtain ⟨m',hm,w3⟩:=hN σ3 H3 n3
   exact ⟨m',hm,σ3,H3,I3,w3⟩
  | brk=>exact q3
  | ret v=>exact q3
 | false =>
  rw [if_neg Bool.false_ne_true]
  exact wpAny_execs_nil ⟨σ1,H2,I2,q2⟩
end
structure It where
 go:Nat→Hp→Prop
 yld:Nat→Hp→V→Hp→Prop
 stop:Nat→Hp→Prop
def FpOk (X:Cx) (pins:List (Addr×Obj)) (H:Hp) (b:Addr):Prop :=
 H b=none∧b≠X.env.locals∧b ∉ X.fs∧(b∈X.ex∨X.s₀.heap.objs.size≤b)∧(∀ x c,X.env.cells.lookup x=some c→c≠b)∧∀ p∈X.pn++pins,p.1≠b
theorem Inv.fpOk {X:Cx} {pins:List (Addr×Obj)} {σ:St} {H H':Hp} {s:Shared} {b:Addr} (I:Inv X pins σ H s) (hb:s.heap.objs.size≤b) (hn:H' b=none):FpOk X pins H' b:=by
 refine ⟨hn,Nat.ne_of_gt (Nat.lt_of_lt_of_le I.lt hb),I.nofs hb,.inr (Nat.le_trans I.sz hb),fun x c e z=>?_,fun p hp z=>?_⟩
 ·obtain ⟨v,q⟩:=I.cell x c e
  exact absurd (Nat.lt_of_lt_of_le q.lt (by rw [z];exact hb)) (Nat.lt_irrefl _)
 ·exact absurd (Nat.lt_of_lt_of_le (Heap.lt_size (I.pin p hp).1) (by rw [z];exact hb)) (Nat.lt_irrefl _)
structure Turn (P:Program) (w:World) (K:PySem.W.Frag) (tg:Expr) (J:It) (fp:List Addr) (it:Addr) (tn:Nat→Heap→Prop):Prop where
 mem:it∈fp
 obj:∀ i h,tn i h→∀ b∈fp,∃ o,h.get? b=some o∧∀ v,o.data≠.cell v
 keep:∀ i h h',tn i h→(∀ b∈fp,∀ o,h.get? b=some o→h'.get? b=some o)→tn i h'
 item:∀ (X:Cx),X.prog=P→X.w=w→X.K=K→X.calm=true→∀ (i:Nat) (pins:List (Addr×Obj)) (s:Shared) (σ:St) (H:Hp) (E:Value→Shared→Prop),Inv X pins σ H s→(∀ b∈fp,FpOk X pins H b)→tn i s.heap→J.go i H →
  wpAny (model P w) X.A (pyNext (.ref it)) (fun r s1=>∃ u,r=some u ∧
   wpAny (model P w) X.A (letOwnedTupleGo tg (.ref it) u) (fun _ s2=>∃ x H',Inv X pins σ H' s2∧RelV x u∧J.yld i H x H'∧tn (i+1) s2.heap∧∀ b∈fp,H' b=none) E s1) E s
 done:∀ (X:Cx),X.prog=P→X.w=w→X.K=K→X.calm=true→∀ (i:Nat) (pins:List (Addr×Obj)) (s:Shared) (σ:St) (H:Hp) (E:Value→Shared→Prop),Inv X pins σ H s→(∀ b∈fp,FpOk X pins H b)→tn i s.heap→J.stop i H →
  wpAny (model P w) X.A (pyNext (.ref it)) (fun r s1=>r=none∧Inv X pins σ H s1) E s
 self:∀ (A:Around) (i:Nat) (s:Shared) (Q:Value→Shared→Prop) (E:Value→Shared→Prop),tn i s.heap→Q (.ref it) s→wpAny (model P w) A (pyIter (.ref it)) Q E s
abbrev TI:=St→Hp→(It→Hp→Prop)→Prop
def PIE (X:Cx) (pins:List (Addr×Obj)) (σ:St) (tg:Expr) (R:It→Hp→Prop) (itv:Value) (s2:Shared):Prop :=
 ∃ (it:Addr) (fp:List Addr) (tn:Nat→Heap→Prop) (J:It) (H':Hp),itv=.ref it∧Inv X pins σ H' s2∧Turn X.prog X.w X.K tg J fp it tn∧tn 0 s2.heap∧(∀ b∈fp,FpOk X pins H' b)∧R J H'
def PI (X:Cx) (tg iter:Expr) (wi:TI):Prop :=
 ∀ (pins:List (Addr×Obj)) (s:Shared) (σ:St) (H:Hp) (R:It→Hp→Prop),Inv X pins σ H s→wi σ H R →
  wpAny (model X.prog X.w) X.A (eval iter X.env) (fun v s1=>wpAny (model X.prog X.w) X.A (pyIter v) (PIE X pins σ tg R) X.xe s1) X.xe s
theorem go_of {M:Model} {A:Around} {E:Value→Shared→Prop} {s:Shared} {tg:Expr} {it:Addr} {u:Value} {o:Obj} {n:String} {vs:Array Value} {Q:Unit→Shared→Prop} (ho:s.heap.get? it=some o) (hc:o.cls=.type n) (hd:o.data=.fields vs)
    (hn:["enumerate","zip","dict_itemiterator","dict_reverseitemiterator","odict_iterator","itertools.zip_longest","itertools.pairwise"].contains n=false) (hQ:Q () s):wpAny M A (letOwnedTupleGo tg (.ref it) u) Q E s:=by
  unfold letOwnedTupleGo
  cases tg <;> first
    | exact wpAny_pure hQ
    | (cases u <;> first
        | exact wpAny_pure hQ
        | (refine wpAny_bind (wpAny_load ho ?_)
           rw [hc,hd]
           show wpAny M A (if (["enumerate","zip","dict_itemiterator","dict_reverseitemiterator","odict_iterator","itertools.zip_longest","itertools.pairwise"].contains n && vs[0]? == some (rawInt _))=true then _ else _) Q E s
           rw [if_neg (by intro h;rw [hn,Bool.false_and] at h;cases h)]
           exact wpAny_pure hQ))
def Itl (K:PySem.W.Frag) (a:Addr):It :=
 ⟨fun i H=>∃ xs x,SqL K H a xs∧xs[i]? = some x,fun i H x H'=>H' = H∧∀ xs,SqL K H a xs→xs[i]? = some x,fun i H=>∃ xs,SqL K H a xs∧xs.length≤i⟩
def K1 (K:PySem.W.Frag) (a:Addr):It :=
 ⟨fun i H=>∃ xs x,SqT K H a xs∧xs[i]? = some x,fun i H x H'=>H' = H∧∀ xs,SqT K H a xs→xs[i]? = some x,fun i H=>∃ xs,SqT K H a xs∧xs.length≤i⟩
def Ri (lo:Int) (n:Nat):It:=⟨fun i _=>i<n,fun i H x H'=>H' = H∧x=.int (lo+i),fun i _=>n≤i⟩
theorem turn_list {P:Program} {w:World} {K:PySem.W.Frag} {tg:Expr} (a it:Addr):Turn P w K tg (Itl K a) [it] it (fun i h=>h.IsListIter it a i) where
 mem:=by simp
 obj:=fun i h st b hb=>by
  have e:b=it:=by simpa using hb
  subst e
  obtain ⟨o,e,c,d⟩:=st
  exact ⟨o,e,fun v z=>by rw [d] at z;cases z⟩
 keep:=fun i h h' st k=>st.at fun o e=>k it (by simp) o e
 item:=by
  intro X hP hw hK hc i pins s σ H E I hf st hg
  subst hP hw hK
  obtain ⟨xs,x,hq,hx⟩:=hg
  obtain ⟨its,rv,p,hz⟩:=I.list hq
  obtain ⟨u,hu,ru⟩:=rv.get hx
  obtain ⟨f0,f1,f2,f3,f4,f5⟩:=hf it (by simp)
  refine wpAny_pyNext_list_item st p.isList (x:=u) (by simpa using hu) fun h' st' sb=>?_
  have I1:Inv X pins σ H { s with heap:=h' }:=I.turned (t':=s.toks) (fun b o hb e=>(sb.2 b hb).trans e) f0 f1 f3 f4 f5
  obtain ⟨o,e,c,d⟩:=id st'
  exact ⟨u,rfl,go_of (s:={ s with heap:=h' }) e c d (by decide) ⟨x,H,I1,ru,⟨rfl,fun ys hy=>by rw [I.list_inj hy hq];exact hx⟩,st',fun b hb=>(hf b hb).1⟩⟩
 done:=by
  intro X hP hw hK hc i pins s σ H E I hf st hg
  subst hP hw hK
  obtain ⟨xs,hq,hx⟩:=hg
  obtain ⟨its,rv,p,hz⟩:=I.list hq
  obtain ⟨f0,f1,f2,f3,f4,f5⟩:=hf it (by simp)
  have hl:=rv.length
  exact wpAny_pyNext_list_end (I.ok.hd hc) st p.isList (by simp;omega) fun h' eb=>⟨rfl,I.turned (t':=s.toks) (fun b o hb e=>eb b o hb e) f0 f1 f3 f4 f5⟩
 self:=fun _ _ _ _ _ st h=>wpAny_pyIter_listiter st h
theorem K8 {P:Program} {w:World} {K:PySem.W.Frag} {tg:Expr} (a it:Addr):Turn P w K tg (K1 K a) [it] it (fun i h=>h.IsTupleIter it a i) where
 mem:=by simp
 obj:=fun i h st b hb=>by
  have e:b=it:=by simpa using hb
  subst e
  obtain ⟨o,e,c,d⟩:=st
  exact ⟨o,e,fun v z=>by rw [d] at z;cases z⟩
 keep:=fun i h h' st k=>st.at fun o e=>k it (by simp) o e
 item:=by
  intro X hP hw hK hc i pins s σ H E I hf st hg
  subst hP hw hK
  obtain ⟨xs,x,hq,hx⟩:=hg
  obtain ⟨its,rv,p,hz⟩:=I.tuple hq
  obtain ⟨u,hu,ru⟩:=rv.get hx
  obtain ⟨f0,f1,f2,f3,f4,f5⟩:=hf it (by simp)
  refine wpAny_pyNext_tuple_item st (show s.heap.IsTuple a its.toArray from p) (x:=u) (by simpa using hu) fun h' st' sb=>?_
  have I1:Inv X pins σ H { s with heap:=h' }:=I.turned (t':=s.toks) (fun b o hb e=>(sb.2 b hb).trans e) f0 f1 f3 f4 f5
  obtain ⟨o,e,c,d⟩:=id st'
  exact ⟨u,rfl,go_of (s:={ s with heap:=h' }) e c d (by decide) ⟨x,H,I1,ru,⟨rfl,fun ys hy=>by rw [I.Rh hy hq];exact hx⟩,st',fun b hb=>(hf b hb).1⟩⟩
 done:=by
  intro X hP hw hK hc i pins s σ H E I hf st hg
  subst hP hw hK
  obtain ⟨xs,hq,hx⟩:=hg
  obtain ⟨its,rv,p,hz⟩:=I.tuple hq
  obtain ⟨f0,f1,f2,f3,f4,f5⟩:=hf it (by simp)
  have hl:=rv.length
  exact wpAny_pyNext_tuple_end (I.ok.hd hc) st (show s.heap.IsTuple a its.toArray from p) (by simp;omega) fun h' eb=>⟨rfl,I.turned (t':=s.toks) (fun b o hb e=>eb b o hb e) f0 f1 f3 f4 f5⟩
 self:=fun _ _ _ _ _ st h=>wpAny_pyIter_tupleiter st h
theorem K9 {P:Program} {w:World} {K:PySem.W.Frag} {tg:Expr} (it:Addr) (lo:Int) (n:Nat):Turn P w K tg (Ri lo n) [it] it (fun i h=>IsRangeIter h it (lo+(i:Nat)*1) ((n:Int) - (i:Nat)) 1) where
 mem:=by simp
 obj:=fun i h st b hb=>by
  have e:b=it:=by simpa using hb
  subst e
  exact ⟨_,st,fun v z=>by
   have z':Data.fields _=Data.cell v:=z
   cases z'⟩
 keep:=fun i h h' st k=>k it (by simp) _ st
 item:=by
  intro X hP hw hK hc i pins s σ H E I hf st hg
  subst hP hw hK
  obtain ⟨f0,f1,f2,f3,f4,f5⟩:=hf it (by simp)
  have W:=Walks.range (prog:=X.prog) (w:=X.w) (I.ok.hd hc) it lo 1 n
  refine W.item i s _ _ hg st fun v h' tk hv st' kk=>?_
  obtain ⟨t,rfl⟩:=hv
  have I1:Inv X pins σ H { s with heap:=h',toks:=tk }:=I.turned (fun b o hb e=>kk b o (by simpa using hb) e) f0 f1 f3 f4 f5
  refine ⟨_,rfl,go_of (s:={ s with heap:=h',toks:=tk }) (n:="range_iterator") st' rfl rfl (by decide) ⟨.int (lo+i),H,I1,⟨t,?_⟩,⟨rfl,rfl⟩,st',fun b hb=>(hf b hb).1⟩⟩
  rw [Int.mul_one]
 done:=by
  intro X hP hw hK hc i pins s σ H E I hf st hg
  subst hP hw hK
  obtain ⟨f0,f1,f2,f3,f4,f5⟩:=hf it (by simp)
  exact wpAny_pyNext_range_end (I.ok.hd hc) st (by have:n≤i:=hg;omega) fun h' eb=>⟨rfl,I.turned (t':=s.toks) (fun b o hb e=>eb b o hb e) f0 f1 f3 f4 f5⟩
 self:=fun _ _ _ _ _ st h=>wpAny_pyIter_rangeiter st h
end L2
namespace L2
open PySem PySem.Spec PyProof.Rows
section
variable {X:Cx} {tg:Expr}
theorem Jf {pins:List (Addr×Obj)} {σ:St} {H:Hp} {s:Shared} {R:It→Hp→Prop} {E:Value→Shared→Prop} {lo hi:Int} {t u v:Tok} {tk:Nat} (I:Inv X pins σ H s) (h1:-(2 ^ 62)≤lo) (h2:lo<2 ^ 62) (h3:-(2 ^ 62)≤hi) (h4:hi<2 ^ 62)
  (q:R (Ri lo (hi - lo).toNat) H):wpAny (model X.prog X.w) X.A (pyIter (.ref s.heap.objs.size)) (PIE X pins σ tg R) E { s with heap:=s.heap.push { cls:=.type "range",data:=.fields #[.int lo t,.int hi u,.int 1 v] },toks:=tk }:=by
 refine wpAny_pyIter_range (IsRange.new ..) (small_one h1 h2 h3 h4) ?_
 have I1:Inv X pins σ H { s with heap:=s.heap.push { cls:=.type "range",data:=.fields #[.int lo t,.int hi u,.int 1 v] },toks:=tk }:=I.kept fun b o e=>Heap.get?_push_of_some _ e
 refine ⟨(s.heap.push { cls:=.type "range",data:=.fields #[.int lo t,.int hi u,.int 1 v] }).objs.size,[(s.heap.push { cls:=.type "range",data:=.fields #[.int lo t,.int hi u,.int 1 v] }).objs.size],_,_,H,rfl,
  I1.kept (t':=tk) fun b o e=>Heap.get?_push_of_some _ e,K9 _ lo (hi - lo).toNat,?_,fun b hb=>?_,q⟩
 ·have e1:lo+((0:Nat):Int)*1=lo:=by simp
  have e2:(((hi - lo).toNat:Nat):Int) - ((0:Nat):Int)=Builtin.Range.rangeSize lo hi 1:=by rw [rangeSize_one];split <;> omega
  show IsRangeIter _ _ (lo+((0:Nat):Int)*1) ((((hi - lo).toNat:Nat):Int) - ((0:Nat):Int)) 1
  rw [e1,e2]
  exact Heap.get?_push_size _ rfl
 ·have e:b=(s.heap.push { cls:=.type "range",data:=.fields #[.int lo t,.int hi u,.int 1 v] }).objs.size:=by simpa using hb
  subst e
  exact I1.fpOk (Nat.le_refl _) (I1.hok.fresh (Nat.le_refl _))
def NP (ta:TA):TI:=fun σ H R=>ta σ H fun vs H1=>∃ j:Int,vs=[.int j]∧-(2 ^ 62)≤j∧j<2 ^ 62∧R (Ri 0 j.toNat) H1
def NQ (ta:TA):TI:=fun σ H R=>ta σ H fun vs H1=>∃ i j:Int,vs=[.int i,.int j]∧(-(2 ^ 62)≤i∧i<2 ^ 62∧-(2 ^ 62)≤j∧j<2 ^ 62)∧R (Ri i (j - i).toNat) H1
theorem Rj {a:Expr} {ta:TA} {p pos:Pos} (hg:Gl X "range") (hm:X.mg "range" = none) (ha:PA X [a] ta) (hs:starEach [a] X.env=[(false,eval a X.env)]:=by rfl):PI X tg (.Call (.Name "range" p) [a] [] pos) (NP ta):=by
 intro pins s σ H R I h
 refine Call_ (ld_blt I hg hm boot_range (PyProof.Rows.callWith_type1 (thn (ha pos pins s σ H _ I h) fun us s1 ⟨vs,H1,I1,r1,q1⟩=>?_) hs rfl))
 obtain ⟨j,e,q1,q2,q⟩:=q1
 subst e
 cases r1 with
 | cons r rr =>
  cases rr
  obtain ⟨t,rfl⟩:=r
  exact call_range_1 (Jf I1 (by omega) (by omega) q1 q2 (by simpa using q))
theorem Rk {a b:Expr} {ta:TA} {p pos:Pos} (hg:Gl X "range") (hm:X.mg "range" = none) (ha:PA X [a,b] ta) (hs:starEach [a,b] X.env=[(false,eval a X.env),(false,eval b X.env)]:=by rfl) (hs2:starEach [b] X.env=[(false,eval b X.env)]:=by rfl) :
  PI X tg (.Call (.Name "range" p) [a,b] [] pos) (NQ ta):=by
 intro pins s σ H R I h
 refine Call_ (ld_blt I hg hm boot_range (PyProof.Rows.callWith_type1 (thn (ha pos pins s σ H _ I h) fun us s1 ⟨vs,H1,I1,r1,q1⟩=>?_) (by rw [hs,hs2]) (by rw [hs2];rfl)))
 obtain ⟨i,j,e,⟨q1,q2,q3,q4⟩,q⟩:=q1
 subst e
 cases r1 with
 | cons r rr =>
  cases rr with
  | cons r' rr =>
   cases rr
   obtain ⟨t,rfl⟩:=r
   obtain ⟨t',rfl⟩:=r'
   exact call_range_2 (Jf I1 q1 q2 q3 q4 q)
def tFor (wi:TI) (g:TG) (tb:TS):TS:=fun D σ H=>wi σ H fun J H1=>∃ W:Nat→Nat→St→Hp→Prop,(∃ m,W 0 m σ H1)∧∀ i m σ H,W i m σ H →
 (J.stop i H∧D.nx σ H)∨(J.go i H∧∃ N:St→Hp→Prop,(∀ σ' H',N σ' H'→∃ m',m'<m∧W (i+1) m' σ' H')∧∀ x H',J.yld i H x H'→g x σ H' fun σ2 H2=>tb { D with nx:=N,ct:=N,bk:=D.nx } σ2 H2)
def pinsAt (fp:List Addr) (h:Heap):List (Addr×Obj):=fp.filterMap fun b=>(h.get? b).map fun o=>(b,o)
theorem mem_pinsAt {fp:List Addr} {h:Heap} {b:Addr} {o:Obj} (hb:b∈fp) (e:h.get? b=some o):(b,o)∈pinsAt fp h:=List.mem_filterMap.mpr ⟨b,hb,by rw [e];rfl⟩
theorem of_pinsAt {fp:List Addr} {h:Heap} {p:Addr×Obj} (hp:p∈pinsAt fp h):p.1∈fp∧h.get? p.1=some p.2:=by
 obtain ⟨b,hb,e⟩:=List.mem_filterMap.mp hp
 cases q:h.get? b with
 | none=>rw [q] at e;cases e
 | some o =>
  rw [q] at e
  have e':(b,o)=p:=Option.some.inj e
  subst e'
  exact ⟨hb,q⟩
theorem Inv.pinned {pins:List (Addr×Obj)} {σ:St} {H:Hp} {s:Shared} {fp:List Addr} (I:Inv X pins σ H s) (hf:∀ b∈fp,FpOk X pins H b) (ho:∀ b∈fp,∃ o,s.heap.get? b=some o∧∀ v,o.data≠.cell v):Inv X (pins++pinsAt fp s.heap) σ H s :=
 I.pins_of fun p hp=>(List.mem_append.mp hp).elim (fun z=>I.pin p (List.mem_append_right _ z)) fun z=>by
  obtain ⟨hb,e⟩:=of_pinsAt z
  obtain ⟨f0,f1,f2,_⟩:=hf p.1 hb
  obtain ⟨o,e',d⟩:=ho p.1 hb
  rw [e] at e';cases e'
  exact ⟨e,f0,f1,f2,d⟩
theorem Inv.unpinned {pins pl:List (Addr×Obj)} {σ:St} {H:Hp} {s:Shared} (I:Inv X (pins++pl) σ H s):Inv X pins σ H s:=I.pins_of fun p hp=>I.pin p (List.mem_append_right _ (List.mem_append_left _ hp))
theorem ps_for {iter:Expr} {body:List Stmt} {wi:TI} {g:TG} {tb:TS} {pos:Pos} (hp:PassesOwn (model X.prog X.w) X.A X.env X.xe) (hc:X.calm=true) (hi:PI X tg iter wi) (hg:PG X tg g) (hb:PSs X body tb)
  (hs:∀ x,foldedSetIterable iter X.env x=pure x:=by intro _;rfl):PS X (.For tg iter body [] pos) (tFor wi g tb):=by
 intro pins s σ H D I h
 refine wpAny_For (thn (hi pins s σ H _ I h) fun v s1 h1=>thn h1 fun itv s2 h2=>?_) hs
 obtain ⟨it,fp,tn,J,H2,e,I2,T,st2,f2,W,⟨m0,w0⟩,turn⟩:=h2
 subst e
 -- what stays true of the iterator's objects through the loop
 have stat:∀ {H':Hp},(∀ b∈fp,H' b=none)→∀ b∈fp,FpOk X pins H' b:=fun hn b hb=>⟨hn b hb,(f2 b hb).2⟩
 refine codeAny_forLoop_any (fun n s'=>∃ i σ' H',Inv X pins σ' H' s'∧tn i s'.heap∧(∀ b∈fp,H' b=none)∧W i n σ' H') ?_ m0 ⟨0,σ,H2,I2,st2,fun b hb=>(f2 b hb).1,w0⟩
 rintro n s3 ⟨i,σ3,H3,I3,st3,fr3,w3⟩
 rcases turn i n σ3 H3 w3 with ⟨stop,qn⟩ | ⟨go,N,hN,step⟩
 ·refine wpAny_passesOwn hp (thn (T.done X rfl rfl rfl hc i pins s3 σ3 H3 X.xe I3 (stat fr3) st3 stop) fun r s4 ⟨hr,I4⟩=>?_)
  subst hr
  exact wpAny_execs_nil ⟨σ3,H3,I4,qn⟩
 ·refine wpAny_passesOwn hp (thn (T.item X rfl rfl rfl hc i pins s3 σ3 H3 X.xe I3 (stat fr3) st3 go) fun r s4 ⟨u,hr,h4⟩=>?_)
  subst hr
  refine wpAny_passesOwn hp (thn h4 fun _ s5 ⟨x,H5,I5,r5,y5,st5,fr5⟩=>?_)
  have I5':=I5.pinned (stat fr5) (T.obj _ _ st5)
  refine wpAny_passesOwn hp (thn (hg _ s5 σ3 H5 x u _ I5' r5 (step x H5 y5)) fun _ s6 ⟨σ6,H6,I6,q6⟩=>?_)
  refine wpAny_passesOwn hp (thn (hb _ s6 σ6 H6 _ I6 q6) fun f s7 q7=>?_)
  have again:∀ {σ7:St} {H7:Hp},Inv X (pins++pinsAt fp s5.heap) σ7 H7 s7→N σ7 H7→∃ m,m<n∧∃ i σ' H',Inv X pins σ' H' s7∧tn i s7.heap∧(∀ b∈fp,H' b=none)∧W i m σ' H':=fun {σ7 H7} I7 n7=>by
   obtain ⟨m',hm,w7⟩:=hN σ7 H7 n7
   refine ⟨m',hm,i+1,σ7,H7,I7.unpinned,T.keep _ _ _ st5 fun b hb o e=>(I7.pin (b,o) (List.mem_append_right _ (List.mem_append_right _ (mem_pinsAt hb e)))).1,fun b hb=>?_,w7⟩
   obtain ⟨o,e,d⟩:=T.obj _ _ st5 b hb
   exact (I7.pin (b,o) (List.mem_append_right _ (List.mem_append_right _ (mem_pinsAt hb e)))).2.1
  cases f with
  | next=>obtain ⟨σ7,H7,I7,n7⟩:=q7;exact again I7 n7
  | cont=>obtain ⟨σ7,H7,I7,n7⟩:=q7;exact again I7 n7
  | brk=>obtain ⟨σ7,H7,I7,q7⟩:=q7;exact ⟨σ7,H7,I7.unpinned,q7⟩
  | ret v=>obtain ⟨x7,σ7,H7,I7,r7,q7⟩:=q7;exact ⟨x7,σ7,H7,I7.unpinned,r7,q7⟩
end
theorem for_list {K:PySem.W.Frag} {a:Addr} {xs:List V} {g:TG} {tb:TS} {D:Ends} {σ:St} {H:Hp} (Pv:Nat→St→Hp→Prop) (h0:Pv 0 σ H) (hl:∀ i σ H,i≤xs.length→Pv i σ H→SqL K H a xs)
  (hs:∀ i x σ H,xs[i]? = some x→Pv i σ H→g x σ H fun σ2 H2=>tb { D with nx:=Pv (i+1),ct:=Pv (i+1),bk:=D.nx } σ2 H2) (hd:∀ σ H,Pv xs.length σ H→D.nx σ H) :
  ∃ W:Nat→Nat→St→Hp→Prop,(∃ m,W 0 m σ H)∧∀ i m σ H,W i m σ H →
   ((Itl K a).stop i H∧D.nx σ H)∨((Itl K a).go i H∧∃ N:St→Hp→Prop,(∀ σ' H',N σ' H'→∃ m',m'<m∧W (i+1) m' σ' H')∧∀ x H',(Itl K a).yld i H x H'→g x σ H' fun σ2 H2=>tb { D with nx:=N,ct:=N,bk:=D.nx } σ2 H2):=by
 refine ⟨fun i m σ H=>m=xs.length - i∧i≤xs.length∧Pv i σ H,⟨xs.length,by simp,Nat.zero_le _,h0⟩,?_⟩
 rintro i m σ H ⟨rfl,hi,p⟩
 have q:=hl i σ H hi p
 by_cases hlt:i<xs.length
 ·refine .inr ⟨⟨xs,xs[i],q,by simp [hlt]⟩,Pv (i+1),fun σ' H' p'=>⟨xs.length - (i+1),by omega,rfl,hlt,p'⟩,fun x H' y=>?_⟩
  obtain ⟨e,y⟩:=y
  subst e
  exact hs i x σ _ (y xs q) p
 ·have e:i=xs.length:=by omega
  subst e
  exact .inl ⟨⟨xs,q,Nat.le_refl _⟩,hd σ H p⟩
theorem G3 {K:PySem.W.Frag} {a:Addr} {xs:List V} {g:TG} {tb:TS} {D:Ends} {σ:St} {H:Hp} (Pv:Nat→St→Hp→Prop) (h0:Pv 0 σ H) (hl:∀ i σ H,i≤xs.length→Pv i σ H→SqT K H a xs)
  (hs:∀ i x σ H,xs[i]? = some x→Pv i σ H→g x σ H fun σ2 H2=>tb { D with nx:=Pv (i+1),ct:=Pv (i+1),bk:=D.nx } σ2 H2) (hd:∀ σ H,Pv xs.length σ H→D.nx σ H) :
  ∃ W:Nat→Nat→St→Hp→Prop,(∃ m,W 0 m σ H)∧∀ i m σ H,W i m σ H →
   ((K1 K a).stop i H∧D.nx σ H)∨((K1 K a).go i H∧∃ N:St→Hp→Prop,(∀ σ' H',N σ' H'→∃ m',m'<m∧W (i+1) m' σ' H')∧∀ x H',(K1 K a).yld i H x H'→g x σ H' fun σ2 H2=>tb { D with nx:=N,ct:=N,bk:=D.nx } σ2 H2):=by
 refine ⟨fun i m σ H=>m=xs.length - i∧i≤xs.length∧Pv i σ H,⟨xs.length,by simp,Nat.zero_le _,h0⟩,?_⟩
 rintro i m σ H ⟨rfl,hi,p⟩
 have q:=hl i σ H hi p
 by_cases hlt:i<xs.length
 ·refine .inr ⟨⟨xs,xs[i],q,by simp [hlt]⟩,Pv (i+1),fun σ' H' p'=>⟨xs.length - (i+1),by omega,rfl,hlt,p'⟩,fun x H' y=>?_⟩
  obtain ⟨e,y⟩:=y
  subst e
  exact hs i x σ _ (y xs q) p
 ·have e:i=xs.length:=by omega
  subst e
  exact .inl ⟨⟨xs,q,Nat.le_refl _⟩,hd σ H p⟩
theorem Rm {lo:Int} {n:Nat} {g:TG} {tb:TS} {D:Ends} {σ:St} {H:Hp} (Pv:Nat→St→Hp→Prop) (h0:Pv 0 σ H)
  (hs:∀ i σ H,i<n→Pv i σ H→g (.int (lo+i)) σ H fun σ2 H2=>tb { D with nx:=Pv (i+1),ct:=Pv (i+1),bk:=D.nx } σ2 H2) (hd:∀ σ H,Pv n σ H→D.nx σ H) :
  ∃ W:Nat→Nat→St→Hp→Prop,(∃ m,W 0 m σ H)∧∀ i m σ H,W i m σ H →
   ((Ri lo n).stop i H∧D.nx σ H)∨((Ri lo n).go i H∧∃ N:St→Hp→Prop,(∀ σ' H',N σ' H'→∃ m',m'<m∧W (i+1) m' σ' H')∧∀ x H',(Ri lo n).yld i H x H'→g x σ H' fun σ2 H2=>tb { D with nx:=N,ct:=N,bk:=D.nx } σ2 H2):=by
 refine ⟨fun i m σ H=>m=n - i∧i≤n∧Pv i σ H,⟨n,by simp,Nat.zero_le _,h0⟩,?_⟩
 rintro i m σ H ⟨rfl,hi,p⟩
 by_cases hlt:i<n
 ·refine .inr ⟨hlt,Pv (i+1),fun σ' H' p'=>⟨n - (i+1),by omega,rfl,hlt,p'⟩,fun x H' y=>?_⟩
  obtain ⟨e,y⟩:=y
  subst e y
  exact hs i σ _ hlt p
 ·have e:i=n:=by omega
  subst e
  exact .inl ⟨Nat.le_refl _,hd σ H p⟩
end L2
namespace L2
open PySem PySem.Spec PyProof.Rows
abbrev R2:=V→V→Hp→VK→Prop
def OpR (X:Cx) (f:Value→Value→Sem Value) (r:R2):Prop :=
 ∀ (pins:List (Addr×Obj)) (s:Shared) (σ:St) (H:Hp) (x y:V) (v u:Value) (Q:VK),Inv X pins σ H s→RelV x v→RelV y u→r x y H Q →
  wpAny (model X.prog X.w) X.A (f v u) (EP X pins σ Q) X.xe s
def CallR (X:Cx) (f:Value) (r:List V→Hp→VK→Prop):Prop :=
 ∀ (pins:List (Addr×Obj)) (s:Shared) (σ:St) (H:Hp) (xs:List V) (us:List Value) (Q:VK),Inv X pins σ H s→Vals xs us→r xs H Q →
  wpAny (model X.prog X.w) X.A (call f us) (EP X pins σ Q) X.xe s
def tOp (r:R2) (ta tb:TE):TE:=fun σ H Q=>ta σ H fun x H1=>tb σ H1 fun y H2=>r x y H2 Q
def rI (C:Int→Int→Prop) (g:Int→Int→V):R2:=fun x y H Q=>∃ i j,x=.int i∧y=.int j∧C i j∧Q (g i j) H
def rI0 (g:Int→Int→V):R2:=fun x y H Q=>∃ i j,x=.int i∧y=.int j∧Q (g i j) H
section
variable {X:Cx} {a b c:Expr} {ta tb tc:TE} {pos:Pos}
theorem binT (ha:PE X a ta) (hb:PE X b tb) {pins:List (Addr×Obj)} {s:Shared} {σ:St} {H:Hp} {R:V→V→Hp→Prop} (I:Inv X pins σ H s)
  (h:ta σ H fun x H1=>tb σ H1 fun y H2=>R x y H2) {Q:Value→Shared→Prop} {f:Value→Value→Sem Value}
  (hf:∀ v u s2 x y H2,Inv X pins σ H2 s2→RelV x v→RelV y u→R x y H2→wpAny (model X.prog X.w) X.A (f v u) Q X.xe s2) :
  wpAny (model X.prog X.w) X.A (eval a X.env) (fun v s₁=>wpAny (model X.prog X.w) X.A (eval b X.env) (fun u s₂=>wpAny (model X.prog X.w) X.A (f v u) Q X.xe s₂) X.xe s₁) X.xe s:=by
 refine thn (ha pins s σ H _ I h) fun v s1 ⟨x,H1,I1,r1,q1⟩=>?_
 refine thn (hb pins s1 σ H1 _ I1 q1) fun u s2 ⟨y,H2,I2,r2,q2⟩=>?_
 exact hf v u s2 x y H2 I2 r1 r2 q2
theorem pe_op {op:Operator} {r:R2} (ho:OpR X (binaryOp op) r) (ha:PE X a ta) (hb:PE X b tb):PE X (.BinOp a op b pos) (tOp r ta tb):=by
 intro pins s σ H Q I h
 exact wpAny_BinOp (binT ha hb I h fun v u s2 x y H2 I2 rx ry q=>ho pins s2 σ H2 x y v u Q I2 rx ry q)
theorem opI {f:Value→Value→Sem Value} {C:Int→Int→Prop} {g:Int→Int→Int}
  (rule:∀ (i j:Int) (t u:Tok) (s:Shared) (Q:Value→Shared→Prop) (E:Value→Shared→Prop),C i j→Q (.int (g i j) s.toks) { s with toks:=s.toks+1 }→wpAny (model X.prog X.w) X.A (f (.int i t) (.int j u)) Q E s) :
  OpR X f (rI C fun i j=>.int (g i j)):=by
 intro pins s σ H x y v u Q I rx ry h
 obtain ⟨i,j,rfl,rfl,hc,q⟩:=h
 obtain ⟨t,rfl⟩:=rx
 obtain ⟨t',rfl⟩:=ry
 exact rule i j t t' s _ _ hc ⟨.int (g i j),H,I.tok _,⟨_,rfl⟩,q⟩
theorem opI0 {f:Value→Value→Sem Value} {g:Int→Int→Int}
  (rule:∀ (i j:Int) (t u:Tok) (s:Shared) (Q:Value→Shared→Prop) (E:Value→Shared→Prop),Q (.int (g i j) s.toks) { s with toks:=s.toks+1 }→wpAny (model X.prog X.w) X.A (f (.int i t) (.int j u)) Q E s) :
  OpR X f (rI0 fun i j=>.int (g i j)):=by
 intro pins s σ H x y v u Q I rx ry h
 obtain ⟨i,j,rfl,rfl,q⟩:=h
 obtain ⟨t,rfl⟩:=rx
 obtain ⟨t',rfl⟩:=ry
 exact rule i j t t' s _ _ ⟨.int (g i j),H,I.tok _,⟨_,rfl⟩,q⟩
theorem opB0 {f:Value→Value→Sem Value} {g:Int→Int→Bool}
  (rule:∀ (i j:Int) (t u:Tok) (s:Shared) (Q:Value→Shared→Prop) (E:Value→Shared→Prop),Q (.bool (g i j)) s→wpAny (model X.prog X.w) X.A (f (.int i t) (.int j u)) Q E s) :
  OpR X f (rI0 fun i j=>.bl (g i j)):=by
 intro pins s σ H x y v u Q I rx ry h
 obtain ⟨i,j,rfl,rfl,q⟩:=h
 obtain ⟨t,rfl⟩:=rx
 obtain ⟨t',rfl⟩:=ry
 exact rule i j t t' s _ _ ⟨.bl (g i j),H,I,rfl,q⟩
def ac2 (i j:Int):Prop:=0≤j∧j≤1000000∧i.natAbs<2 ^ 64
def CMul (i j:Int):Prop:=(-(2 ^ 64)<i∧i<2 ^ 64)∨(-(2 ^ 64)<j∧j<2 ^ 64)
theorem CMul.ok {i j:Int} (h:CMul i j):IntMulOk i j:=by
 rcases h with ⟨h1,h2⟩ | ⟨h1,h2⟩
 ·exact .of_left (intBits_le_64 h1 h2)
 ·exact .of_right (intBits_le_64 h1 h2)
theorem op_add:OpR X (binaryOp .Add) (rI0 fun i j=>.int (i+j)):=opI0 fun _ _ _ _ _ _ _ q=>add_int q
theorem op_sub:OpR X (binaryOp .Sub) (rI0 fun i j=>.int (i - j)):=opI0 fun _ _ _ _ _ _ _ q=>sub_int q
theorem sO:OpR X (binaryOp .Mult) (rI CMul fun i j=>.int (i*j)):=opI fun _ _ _ _ _ _ _ hc q=>mul_int q hc.ok
theorem op_mod:OpR X (binaryOp .Mod) (rI (fun _ j=>0<j) fun i j=>.int (i % j)):=opI fun i j _ _ _ _ _ hc q=>by
 have h1:(0:Int)<j:=hc
 exact mod_int' (by omega) (by rw [Int.fmod_eq_emod_of_nonneg i (by omega)];exact q)
theorem ZX:OpR X (binaryOp .Pow) (rI ac2 fun i j=>.int (i ^ j.toNat)):=opI fun _ _ _ _ _ _ _ hc q=>pow_int_small hc.1 hc.2.1 hc.2.2 q
end
def scal:V→V→Bool
 | .non,.non=>true | .non,.int _=>true | .int _,.non=>true | .non,.bl _=>true | .bl _,.non=>true | .non,.str _=>true | .str _,.non=>true
 | .int _,.int _=>true | .bl _,.bl _=>true | .str _,.str _=>true | .byt _,.byt _=>true
 | .int _,.str _=>true | .str _,.int _=>true | .bl _,.str _=>true | .str _,.bl _=>true
 | _,_=>false
def rEq:R2:=fun x y H Q=>scal x y=true∧Q (.bl (decide (x=y))) H
def rNe:R2:=fun x y H Q=>scal x y=true∧Q (.bl (!decide (x=y))) H
theorem dec_int {i j:Int}:decide (V.int i=V.int j)=(i == j):=by
 rw [Bool.eq_iff_iff]
 simp
theorem dec_bl {i j:Bool}:decide (V.bl i=V.bl j)=(i == j):=by
 rw [Bool.eq_iff_iff]
 simp
theorem dec_str {i j:Str}:decide (V.str i=V.str j)=(i == j):=by
 rw [Bool.eq_iff_iff]
 simp
theorem dec_byt {i j:Array UInt8}:decide (V.byt i=V.byt j)=(i.toList == j.toList):=by
 rw [Bool.eq_iff_iff]
 cases i
 cases j
 simp
section
variable {X:Cx} {a b c:Expr} {ta tb tc:TE} {pos:Pos}
theorem fin_bl {pins:List (Addr×Obj)} {σ:St} {H:Hp} {s:Shared} {Q:VK} {k k':Bool} (I:Inv X pins σ H s) (q:Q (.bl k) H) (e:k=k'):EP X pins σ Q (.bool k') s:=by
 subst e
 exact ⟨.bl k,H,I,rfl,q⟩
theorem op_eq:OpR X (compareOp .Eq) rEq:=by
 intro pins s σ H x y v u Q I rx ry h
 obtain ⟨hs,q⟩:=h
 cases x with
 | non =>
  cases rx
  cases y with
  | non=>cases ry;exact PySem.EqNone.eq_none_none (fin_bl I q (by simp))
  | bl j=>cases ry;exact PySem.EqNone.eq_none_bool (fin_bl I q (by simp))
  | int j=>obtain ⟨t',rfl⟩:=ry;exact PySem.EqNone.eq_none_int (fin_bl I q (by simp))
  | str j=>obtain ⟨t',rfl⟩:=ry;exact PySem.EqNone.eq_none_str (fin_bl I q (by simp))
  | _=>exact absurd (show false=true from hs) Bool.false_ne_true
 | bl i =>
  cases rx
  cases y with
  | non=>cases ry;exact PySem.EqNone.eq_bool_none (fin_bl I q (by simp))
  | bl j=>cases ry;exact eq_bool (fin_bl I q dec_bl)
  | str j=>obtain ⟨t',rfl⟩:=ry;exact PySem.EqMixed.eq_bool_str (fin_bl I q (by simp))
  | _=>exact absurd (show false=true from hs) Bool.false_ne_true
 | int i =>
  obtain ⟨t,rfl⟩:=rx
  cases y with
  | non=>cases ry;exact PySem.EqNone.eq_int_none (fin_bl I q (by simp))
  | int j=>obtain ⟨t',rfl⟩:=ry;exact eq_int (fin_bl I q dec_int)
  | str j=>obtain ⟨t',rfl⟩:=ry;exact PySem.EqMixed.eq_int_str (fin_bl I q (by simp))
  | _=>exact absurd (show false=true from hs) Bool.false_ne_true
 | str i =>
  obtain ⟨t,rfl⟩:=rx
  cases y with
  | non=>cases ry;exact PySem.EqNone.eq_str_none (fin_bl I q (by simp))
  | bl j=>cases ry;exact PySem.EqMixed.eq_str_bool (fin_bl I q (by simp))
  | int j=>obtain ⟨t',rfl⟩:=ry;exact PySem.EqMixed.eq_str_int (fin_bl I q (by simp))
  | str j=>obtain ⟨t',rfl⟩:=ry;exact eq_str (fin_bl I q dec_str)
  | _=>exact absurd (show false=true from hs) Bool.false_ne_true
 | byt i =>
  obtain ⟨t,rfl⟩:=rx
  cases y with
  | byt j=>obtain ⟨t',rfl⟩:=ry;exact PySem.W.eq_bytes (fin_bl I q dec_byt)
  | _=>exact absurd (show false=true from hs) Bool.false_ne_true
 | _=>cases y <;> exact absurd (show false=true from hs) Bool.false_ne_true
theorem op_ne:OpR X (compareOp .NotEq) rNe:=by
 intro pins s σ H x y v u Q I rx ry h
 obtain ⟨hs,q⟩:=h
 cases x with
 | non =>
  cases rx
  cases y with
  | non=>cases ry;exact PySem.EqNone.ne_none_none (fin_bl I q (by simp))
  | bl j=>cases ry;exact PySem.EqNone.ne_none_bool (fin_bl I q (by simp))
  | int j=>obtain ⟨t',rfl⟩:=ry;exact PySem.EqNone.ne_none_int (fin_bl I q (by simp))
  | str j=>obtain ⟨t',rfl⟩:=ry;exact PySem.EqNone.ne_none_str (fin_bl I q (by simp))
  | _=>exact absurd (show false=true from hs) Bool.false_ne_true
 | bl i =>
  cases rx
  cases y with
  | non=>cases ry;exact PySem.EqNone.ne_bool_none (fin_bl I q (by simp))
  | bl j=>cases ry;exact ne_bool (fin_bl I q (congrArg not dec_bl))
  | str j=>obtain ⟨t',rfl⟩:=ry;exact PySem.EqMixed.ne_bool_str (fin_bl I q (by simp))
  | _=>exact absurd (show false=true from hs) Bool.false_ne_true
 | int i =>
  obtain ⟨t,rfl⟩:=rx
  cases y with
  | non=>cases ry;exact PySem.EqNone.ne_int_none (fin_bl I q (by simp))
  | int j=>obtain ⟨t',rfl⟩:=ry;exact ne_int (fin_bl I q (congrArg not dec_int))
  | str j=>obtain ⟨t',rfl⟩:=ry;exact PySem.EqMixed.ne_int_str (fin_bl I q (by simp))
  | _=>exact absurd (show false=true from hs) Bool.false_ne_true
 | str i =>
  obtain ⟨t,rfl⟩:=rx
  cases y with
  | non=>cases ry;exact PySem.EqNone.ne_str_none (fin_bl I q (by simp))
  | bl j=>cases ry;exact PySem.EqMixed.ne_str_bool (fin_bl I q (by simp))
  | int j=>obtain ⟨t',rfl⟩:=ry;exact PySem.EqMixed.ne_str_int (fin_bl I q (by simp))
  | str j=>obtain ⟨t',rfl⟩:=ry;exact ne_str (fin_bl I q (congrArg not dec_str))
  | _=>exact absurd (show false=true from hs) Bool.false_ne_true
 | byt i =>
  obtain ⟨t,rfl⟩:=rx
  cases y with
  | byt j=>obtain ⟨t',rfl⟩:=ry;exact PySem.W.ne_bytes (fin_bl I q (congrArg not dec_byt))
  | _=>exact absurd (show false=true from hs) Bool.false_ne_true
 | _=>cases y <;> exact absurd (show false=true from hs) Bool.false_ne_true
theorem mH:OpR X (compareOp .Lt) (rI0 fun i j=>.bl (decide (i<j))):=opB0 fun _ _ _ _ _ _ _ q=>lt_int q
theorem uY:OpR X (compareOp .Gt) (rI0 fun i j=>.bl (decide (j<i))):=opB0 fun _ _ _ _ _ _ _ q=>gt_int q
theorem op_ge:OpR X (compareOp .GtE) (rI0 fun i j=>.bl (decide (j≤i))):=opB0 fun _ _ _ _ _ _ _ q=>ge_int q
theorem Z0:OpR X (compareOp .Is) (fun x y H Q=>y=.non∧Q (.bl (decide (x=.non))) H):=by
 intro pins s σ H x y v u Q I rx ry h
 obtain ⟨rfl,q⟩:=h
 cases ry
 refine is_none_gen (fin_bl I q ?_)
 cases x <;> first
  | (cases rx;rfl)
  | (obtain ⟨t,rfl⟩:=rx;rfl)
theorem nomark (b:Expr) {op:CmpOp} (h:op≠.In:=by decide) (h2:op≠.NotIn:=by decide):behindInMarks op b=false:=by
 have e1:(op == CmpOp.In)=false:=by cases op <;> first | rfl | exact absurd rfl h
 have e2:(op == CmpOp.NotIn)=false:=by cases op <;> first | rfl | exact absurd rfl h2
 cases b <;> simp [behindInMarks,e1,e2]
theorem pe_cmpR {op:CmpOp} {r:R2} (ho:OpR X (compareOp op) r) (ha:PE X a ta) (hb:PE X b tb) (hm:behindInMarks op b=false):PE X (.Compare a [op] [b] pos) (tOp r ta tb):=by
 intro pins s σ H Q I h
 exact wpAny_Compare1 (binT ha hb I h fun v u s2 x y H2 I2 rx ry q=>ho pins s2 σ H2 x y v u Q I2 rx ry q) hm
def tTest (t:TE):TT:=fun σ H Q=>t σ H fun x H'=>∃ k,x=.bl k∧Q k H'
theorem pt_cmpR {op:CmpOp} {r:R2} (ho:OpR X (compareOp op) r) (ha:PE X a ta) (hb:PE X b tb) (hm:behindInMarks op b=false):PT X (.Compare a [op] [b] pos) (tTest (tOp r ta tb)):=by
 intro pins s σ H Q I h
 refine wpAny_isTrue_Compare1 (thn (ha pins s σ H _ I h) fun v s1 ⟨x,H1,I1,r1,q1⟩=>thn (hb pins s1 σ H1 _ I1 q1) fun u s2 ⟨y,H2,I2,r2,q2⟩ =>
  thn (ho pins s2 σ H2 x y v u _ I2 r1 r2 q2) fun c s3 ⟨z,H3,I3,r3,k,e,q3⟩=>?_) hm
 subst e
 cases r3
 exact wpAny_truthy_bool ⟨H3,I3,q3⟩
theorem line63:(sizeLine:Nat)<2 ^ 63:=by rw [sizeLine_eq];decide
theorem vals1 {x:V} {us:List Value} (r:Vals [x] us):∃ u,us=[u]∧RelV x u:=by
 cases r with
 | cons r1 r2=>cases r2;exact ⟨_,rfl,r1⟩
theorem vals2 {x y:V} {us:List Value} (r:Vals [x,y] us):∃ u w',us=[u,w']∧RelV x u∧RelV y w':=by
 cases r with
 | cons r1 r2 =>
  cases r2 with
  | cons r3 r4=>cases r4;exact ⟨_,_,rfl,r1,r3⟩
theorem Rn (hc:X.calm=true):CallR X (.builtin "min") (fun xs H Q=>∃ i j,xs=[.int i,.int j]∧Q (.int (if j<i then j else i)) H):=by
 intro pins s σ H xs us Q I r h
 obtain ⟨i,j,rfl,q⟩:=h
 obtain ⟨u,w',rfl,⟨t,rfl⟩,⟨t',rfl⟩⟩:=vals2 r
 refine min_two_ints (I.ok.hd hc) fun h' tk k=>⟨_,H,I.kept k,?_,q⟩
 by_cases hj:j<i
 ·rw [if_pos hj,if_pos hj];exact ⟨_,rfl⟩
 ·rw [if_neg hj,if_neg hj];exact ⟨_,rfl⟩
theorem Ro:CallR X (.type "int") (fun xs H Q=>(∃ i,xs=[.int i]∧Q (.int i) H)∨∃ k,xs=[.bl k]∧Q (.int (if k then 1 else 0)) H):=by
 intro pins s σ H xs us Q I r h
 rcases h with ⟨i,rfl,q⟩ | ⟨k,rfl,q⟩
 ·obtain ⟨u,rfl,t,rfl⟩:=vals1 r
  exact call_int_int ⟨.int i,H,I,⟨_,rfl⟩,q⟩
 ·obtain ⟨u,rfl,r1⟩:=vals1 r
  cases r1
  exact call_int_bool ⟨.int (if k then 1 else 0),H,I.tok _,⟨_,rfl⟩,q⟩
end
end L2
namespace L2
open PySem PySem.Spec PyProof.Rows
structure ObjM (h:Heap) (x dx C:Addr) (mA:Str→Option Value):Prop where
 obj:h.get? x=some (PySem.W.instObj C dx)
 ns:h.Ns1 dx mA
 ne:dx≠x
theorem lookIn_ns {h:Heap} {dx:Addr} {mA:Str→Option Value} (n:h.Ns1 dx mA):∃ od,h.get? dx=some od∧∀ name,PySem.W.lookIn name od=some (mA name):=by
 obtain ⟨o,es,ep,ho,hd,hk,_,hm⟩:=n
 refine ⟨o,ho,fun name=>?_⟩
 have e:=hm name
 unfold nsFind findBy at e
 rw [←Array.find?_toList] at e
 unfold PySem.W.lookIn
 rw [hd]
 dsimp only
 split
 ·rename_i y q
  rw [q] at e
  exact congrArg some e
 ·rename_i q
  rw [q] at e
  have a:es.toList.any (·.refKey)=false:=by
   rw [List.any_eq_false]
   intro y hy
   obtain ⟨z,t,hkey⟩:=hk y (Array.mem_toList_iff.mp hy)
   simp [DictEntry.refKey,hkey]
  have a':¬ es.toList.any (·.refKey)=true:=by rw [a];exact Bool.false_ne_true
  rw [if_neg a']
  exact congrArg some e
theorem ObjM.look {h:Heap} {x dx C:Addr} {mA:Str→Option Value} (I:ObjM h x dx C mA):∃ od,PySem.W.InstAt h x (PySem.W.instObj C dx) C (some od)∧∀ name,PySem.W.lookIn name od=some (mA name) :=
 let ⟨od,ho,hl⟩:=lookIn_ns I.ns
 ⟨od,⟨I.obj,rfl,rfl,ho⟩,hl⟩
section
variable {prog:Program} {w:World} {A:Around} {E:Value→Shared→Prop} {s:Shared} {K:PySem.W.Frag} {x dx C f:Addr} {mA:Str→Option Value} {name:Str} {v:Value}
theorem get_map {expr:Bool} {Q:Value→Shared→Prop} (X:K.In s.heap) (I:ObjM s.heap x dx C mA) (hg:PySem.W.plainGet K C name=true) (hh:PySem.W.hasDictIn K C=true)
  (ha:PySem.W.findIn K (.ref C) name=some none) (hv:mA name=some v) (hv':PySem.W.handedIn v=true) (h:Q v { s with toks:=s.toks+1 }) :
  wpAny (model prog w) A (getAttr (.ref x) name expr) Q E s:=by
 obtain ⟨od,J,hl⟩:=I.look
 exact PySem.W.get_value X J (PySem.W.plainGet_of hg).1 (PySem.W.findObj_own hh ha rfl (by rw [hl,hv])) hv' h
theorem get_meth {pl:Sem Bool} {Q:Value×List Value→Shared→Prop} (X:K.In s.heap) (I:ObjM s.heap x dx C mA) (hg:PySem.W.plainGet K C name=true)
  (hf:PySem.W.findIn K (.ref C) name=some (some (.ref f))) (ht:PySem.W.isFn K (.ref f)=true) (hv:mA name=none) (h:Q (.ref f,[.ref x]) s) :
  wpAny (model prog w) A (getMethod (.ref x) name pl) Q E s:=by
 obtain ⟨od,J,hl⟩:=I.look
 exact PySem.W.method_fn X J (PySem.W.plainGet_of hg).1 (PySem.W.plainGet_of hg).2 hf (beq_iff_eq.mp ht) (by show (PySem.W.lookIn name od).map (·.isSome)=some false;rw [hl,hv];rfl) h
theorem set_map {ns:List Str} {Q:Unit→Shared→Prop} (X:K.In s.heap) (I:ObjM s.heap x dx C mA)
  (hs:PySem.W.findIn K (.ref C) "__setattr__" = some (some (.builtin "object.__setattr__"))) (hp:PySem.W.plainOver K C=true) (ht:PySem.W.takerIn K C name=some none) (hh:PySem.W.hasDictIn K C=true)
  (hw:PySem.Within mA ns) (hsz:ns.length≤sizeLine)
  (h:∀ h',ObjM h' x dx C (fun y=>if y=name then some v else mA y)→Heap.SameBut dx s.heap h'→Q () { s with heap:=h',toks:=s.toks+2 }) :
  wpAny (model prog w) A (setAttr (.ref x) name v) Q E s:=by
 obtain ⟨od,J,hl⟩:=I.look
 refine PySem.W.set_plain X J hs (PySem.W.osa_open (s:={ s with toks:=s.toks+1 }) (r:=none) X J hp ht fun b=>?_)
 obtain ⟨cd,hc,hd'⟩:=PySem.W.any_some hh
 have hx:s.heap.get? x=some ⟨.ref C,some dx,.plain,#[]⟩:=I.obj
 refine wpAny_bind (wpAny_pure (wpAny_bind (wpAny_bind (wpAny_loadPart hx (wpAny_bind (PySem.W.Looks.here (s:={ s with toks:=s.toks+1 }) (PySem.W.looks_clsIn X hc) ?_))))))
 rw [hd']
 refine wpAny_pure (a:=some dx) (wpAny_bind (wpAny_pure (wpAny_bind ?_)))
 refine wpAny_nsSet1 (s:={ s with toks:=s.toks+1 }) I.ns fun h' hn2 hs2=>?_
 obtain ⟨oD,esD,epD,hoD,hdD,hcD⟩:=hn2.count (PySem.Within.cons name v hw)
 refine wpAny_bind (wpAny_lookBehind hoD (by rw [hdD];exact pastItsLine_dict (Nat.le_trans hcD (by rw [List.length_cons];omega))) ?_)
 exact wpAny_pure (h _ ⟨(hs2.2 _ (Ne.symm I.ne)).trans I.obj,hn2,I.ne⟩ hs2)
theorem make_map {R:Result→Shared→Prop} {vs:List Value} {kw:List (Str×Value)} (X:K.In s.heap) (hm:PySem.W.makesIn K C=true)
  (hi:PySem.W.findIn K (.ref C) "__init__" = some (some (.ref f))) (hf:PySem.W.typeIn K (.ref f)=some (.type "function"))
  (h:codeAny (model prog w) (A.under (.builtin "type.__call__" ⟨.ref C::vs,kw⟩)) (.call (.ref f) ⟨.ref (s.heap.objs.size+1)::vs,kw⟩) (PySem.W.InitBack (s.heap.objs.size+1) R)
   { s with heap:=(s.heap.push PySem.W.emptyDict).push (PySem.W.instObj C s.heap.objs.size) }) :
  codeAny (model prog w) A (.call (.ref C) ⟨vs,kw⟩) R s:=by
 obtain ⟨hh,g,d,t,os⟩:=s
 exact PySem.W.make_core (PySem.W.makes_of X hm) (PySem.W.looks_findIn X hi) (fun self=>PySem.W.bind_fn X self hf) (.inl rfl) h
end
def putF (f:Str) (v:V):List (Str×V)→List (Str×V)
 | []=>[(f,v)]
 | (g,x)::r=>if g=f then (g,v)::r else (g,x)::putF f v r
theorem lookup_putF (f g:Str) (v:V):∀ fs:List (Str×V),(putF f v fs).lookup g=if g=f then some v else fs.lookup g
 | []=>by
  show List.lookup g [(f,v)]=_
  by_cases h:g=f
  ·have hb:(g == f)=true:=beq_iff_eq.mpr h
   simp only [List.lookup,hb,if_pos h]
  ·have hb:(g == f)=false:=beq_eq_false_iff_ne.mpr h
   simp only [List.lookup,hb,if_neg h]
 | (k,x)::r=>by
  have ih:=lookup_putF f g v r
  rw [show putF f v ((k,x)::r)=(if k=f then (k,v)::r else (k,x)::putF f v r) from rfl]
  by_cases hk:k=f
  ·rw [if_pos hk]
   by_cases h:g=k
   ·have hb:(g == k)=true:=beq_iff_eq.mpr h
    simp only [List.lookup,hb,if_pos (h.trans hk)]
   ·have hb:(g == k)=false:=beq_eq_false_iff_ne.mpr h
    simp only [List.lookup,hb,if_neg (fun e:g=f=>h (e.trans hk.symm))]
  ·rw [if_neg hk]
   by_cases h:g=k
   ·have hb:(g == k)=true:=beq_iff_eq.mpr h
    simp only [List.lookup,hb,if_neg (fun e:g=f=>hk (h.symm.trans e))]
   ·have hb:(g == k)=false:=beq_eq_false_iff_ne.mpr h
    simp only [List.lookup,hb]
    exact ih
theorem keys_putF (f:Str) (v:V):∀ fs:List (Str×V),f∈(putF f v fs).map (·.1)∧∀ g,g∈fs.map (·.1)→g∈(putF f v fs).map (·.1)
 | []=>⟨by simp [putF],fun g h=>by simp at h⟩
 | (k,x)::r=>by
  obtain ⟨i1,i2⟩:=keys_putF f v r
  rw [show putF f v ((k,x)::r)=(if k=f then (k,v)::r else (k,x)::putF f v r) from rfl]
  by_cases hk:k=f
  ·rw [if_pos hk]
   subst hk
   exact ⟨by simp,fun g h=>by simpa using h⟩
  ·rw [if_neg hk]
   refine ⟨?_,fun g h=>?_⟩
   ·rw [List.map_cons]
    exact List.mem_cons_of_mem _ i1
   ·rw [List.map_cons] at h ⊢
    rcases List.mem_cons.mp h with e | e
    ·exact List.mem_cons.mpr (.inl e)
    ·exact List.mem_cons_of_mem _ (i2 g e)
theorem length_putF (f:Str) (v:V):∀ fs:List (Str×V),(putF f v fs).length≤fs.length+1
 | []=>by simp [putF]
 | (k,x)::r=>by
  have ih:=length_putF f v r
  rw [show putF f v ((k,x)::r)=(if k=f then (k,v)::r else (k,x)::putF f v r) from rfl]
  by_cases hk:k=f
  ·rw [if_pos hk,List.length_cons,List.length_cons];omega
  ·rw [if_neg hk,List.length_cons,List.length_cons];omega
theorem RelO.some_of {v:V} {o:Option Value} (r:RelO (some v) o):∃ u,o=some u∧RelV v u:=by
 cases o with
 | none=>exact (show False from r).elim
 | some u=>exact ⟨u,rfl,r⟩
theorem RelO.none_of {o:Option Value} (r:RelO none o):o=none:=by
 cases o with
 | none=>rfl
 | some u=>exact (show False from r).elim
theorem handed_of {v:V} {u:Value} (r:RelV v u):PySem.W.handedIn u=true:=by
 cases v with
 | non=>cases (show u=Value.none from r);rfl
 | bl b=>cases (show u=Value.bool b from r);rfl
 | int i=>obtain ⟨t,e⟩:=(show ∃ t,u=Value.int i t from r);cases e;rfl
 | str x=>obtain ⟨t,e⟩:=(show ∃ t,u=Value.str x t from r);cases e;rfl
 | byt b=>obtain ⟨t,e⟩:=(show ∃ t,u=Value.bytes b t from r);cases e;rfl
 | flt b=>obtain ⟨t,e⟩:=(show ∃ t,u=Value.float b t from r);cases e;rfl
 | ref a=>cases (show u=Value.ref a from r);rfl
 | ty n=>cases (show u=Value.type n from r);rfl
section
variable {P:Program} {w:World} {H H':Hp} {h h':Heap} {a C dx:Addr} {fs fs':List (Str×V)}
theorem ins_get (hok:HOk P w H h) (e:H a=some (.ins C dx fs)):∃ mA,ObjM h a dx C mA∧(∀ f,RelO (fs.lookup f) (mA f))∧PySem.Within mA (fs.map (·.1))∧fs.length≤1000∧H dx=some (.own a):=by
 obtain ⟨d,z,ne,ob,mA,n,r,q⟩:=(show ObjOk P w H h a (.ins C dx fs) from hok a _ e)
 exact ⟨mA,⟨ob,n,ne⟩,r,q,z,d⟩
end
structure Cls (K:PySem.W.Frag) (C:Addr):Prop where
 pg:PySem.W.plainGet K C Str.empty=true
 hd:PySem.W.hasDictIn K C=true
 po:PySem.W.plainOver K C=true
 sa:PySem.W.findIn K (.ref C) "__setattr__" = some (some (.builtin "object.__setattr__"))
theorem Cls.get {K:PySem.W.Frag} {C:Addr} (c:Cls K C) (f:Str):PySem.W.plainGet K C f=true:=c.pg
def NoAttr (K:PySem.W.Frag) (C:Addr) (f:Str):Prop:=PySem.W.findIn K (.ref C) f=some none
theorem NoAttr.taker {K:PySem.W.Frag} {C:Addr} {f:Str} (n:NoAttr K C f):PySem.W.takerIn K C f=some none:=by
 unfold PySem.W.takerIn
 rw [show PySem.W.findIn K (.ref C) f=some none from n]
 rfl
structure Meth (K:PySem.W.Frag) (C:Addr) (m:Str) (f:Addr):Prop where
 at_:PySem.W.findIn K (.ref C) m=some (some (.ref f))
 fn:PySem.W.isFn K (.ref f)=true
 kp:PySem.W.keepIn K (.ref f)=true
section
variable {X:Cx} {pins:List (Addr×Obj)} {σ:St} {H:Hp} {s:Shared} {a C dx:Addr} {fs:List (Str×V)} {f:Str} {v:V} {A:Around} {E:Value→Shared→Prop}
theorem getattr_ok {b:Bool} {Q:Value→Shared→Prop} (I:Inv X pins σ H s) (e:H a=some (.ins C dx fs)) (c:Cls X.K C) (n:NoAttr X.K C f) (l:fs.lookup f=some v)
  (h:∀ u s',Inv X pins σ H s'→RelV v u→Q u s'):wpAny (model X.prog X.w) A (getAttr (.ref a) f b) Q E s:=by
 obtain ⟨mA,O,r,_,_,_⟩:=ins_get I.hok e
 obtain ⟨u,hu,ru⟩:=RelO.some_of (v:=v) (o:=mA f) (by rw [←l];exact r f)
 exact get_map I.kIn O (c.get f) c.hd n hu (handed_of ru) (h u _ (I.tok _) ru)
theorem getmeth_ok {m:Str} {g:Addr} {pl:Sem Bool} {Q:Value×List Value→Shared→Prop} (I:Inv X pins σ H s) (e:H a=some (.ins C dx fs)) (c:Cls X.K C) (k:Meth X.K C m g) (l:fs.lookup m=none)
  (h:Q (.ref g,[.ref a]) s):wpAny (model X.prog X.w) A (getMethod (.ref a) m pl) Q E s:=by
 obtain ⟨mA,O,r,_,_,_⟩:=ins_get I.hok e
 have hn:mA m=none:=RelO.none_of (by rw [←l];exact r m)
 exact get_meth I.kIn O (c.get m) k.at_ k.fn hn h
theorem setattr_ok {y:V} {u:Value} {Q:Unit→Shared→Prop} (I:Inv X pins σ H s) (e:H a=some (.ins C dx fs)) (c:Cls X.K C) (n:NoAttr X.K C f) (hl:fs.length<1000) (ry:RelV y u)
  (h:∀ s',Inv X pins σ (upd H a (.ins C dx (putF f y fs))) s'→Q () s'):wpAny (model X.prog X.w) A (setAttr (.ref a) f u) Q E s:=by
 obtain ⟨mA,O,r,wi,_,ho⟩:=ins_get I.hok e
 have hz:(fs.map (·.1)).length≤sizeLine:=by rw [List.length_map,sizeLine_eq];omega
 refine set_map I.kIn O c.sa c.po n.taker c.hd wi hz fun h' O' sb=>h _ ?_
 have hd:∃ o,h'.get? dx=some o:=let ⟨o,_,_,e',_⟩:=O'.ns;⟨o,e'⟩
 refine I.write (x:=a) (e:=dx) (by rw [e];exact True.intro) (.inr ho) (fun b q hb z=>(sb.2 b hb).trans z) hd ?_
 refine ⟨by rw [upd_ne O.ne];exact ho,?_,O.ne,O'.obj,_,O'.ns,fun g=>?_,fun g hg=>?_⟩
 ·have:=length_putF f y fs;omega
 ·show RelO ((putF f y fs).lookup g) (if g=f then some u else mA g)
  rw [lookup_putF]
  by_cases q:g=f
  ·rw [if_pos q,if_pos q];exact ry
  ·rw [if_neg q,if_neg q];exact r g
 ·by_cases q:g=f
  ·rw [q];exact (keys_putF f y fs).1
  ·refine (keys_putF f y fs).2 g (wi g fun z=>hg ?_)
   show (if g=f then some u else mA g)=none
   rw [if_neg q];exact z
theorem Inv.made (I:Inv X pins σ H s):Inv X pins σ (upd (upd H s.heap.objs.size (.own (s.heap.objs.size+1))) (s.heap.objs.size+1) (.ins C s.heap.objs.size []))
  { s with heap:=(s.heap.push PySem.W.emptyDict).push (PySem.W.instObj C s.heap.objs.size) }:=by
 have e1:(s.heap.push PySem.W.emptyDict).get? s.heap.objs.size=some PySem.W.emptyDict:=Heap.get?_push_size s.heap rfl
 have e2:((s.heap.push PySem.W.emptyDict).push (PySem.W.instObj C s.heap.objs.size)).get? (s.heap.objs.size+1)=some (PySem.W.instObj C s.heap.objs.size):=by
  have:=Heap.get?_push_size (s.heap.push PySem.W.emptyDict) (o:=PySem.W.instObj C s.heap.objs.size) rfl
  rwa [Heap.size_push] at this
 have e3:(s.heap.push PySem.W.emptyDict).Ns s.heap.objs.size (fun _=>none):=⟨PySem.W.emptyDict,#[],_,e1,rfl,(fun e he=>absurd he (by simp)),fun _=>rfl⟩
 have I1:=I.laid (a:=s.heap.objs.size) (o:=.own (s.heap.objs.size+1)) (h':=s.heap.push PySem.W.emptyDict) (t':=s.toks) (fun b u q=>Heap.get?_push_of_some _ q) (Nat.le_refl _) ⟨_,e1⟩
 refine I1.laid (a:=s.heap.objs.size+1) (o:=.ins C s.heap.objs.size []) (t':=s.toks) (fun b u q=>Heap.get?_push_of_some _ q) (Nat.le_of_eq (Heap.size_push _ _)) ?_
 have ne:s.heap.objs.size≠s.heap.objs.size+1:=Nat.ne_of_lt (Nat.lt_succ_self _)
 refine ⟨by rw [upd_ne ne,upd_same],Nat.zero_le _,ne,e2,fun _=>none,(Heap.Ns1.of_empty e3).at fun o q=>Heap.get?_push_of_some _ q,fun _=>True.intro,fun y hy=>absurd rfl hy⟩
theorem attr_of {prog:Program} {w:World} {env:Env} {e:Expr} {f:Str} {pos:Pos} {s:Shared} {Q:Value→Shared→Prop} (hb:attributeBase e f env (eval e env)=eval e env)
  (h:wpAny (model prog w) A (eval e env) (fun o s₁=>wpAny (model prog w) A (getAttr o f true) Q E s₁) E s):wpAny (model prog w) A (eval (.Attribute e f pos) env) Q E s :=
 Attribute_any_ h (by rw [arm_eval_Attribute,hb])
end
def tFld (K:PySem.W.Frag) (ta:TE) (f:Str):TE:=fun σ H Q=>ta σ H fun x H1=>∃ a C dx fs v,x=.ref a∧H1 a=some (.ins C dx fs)∧Cls K C∧NoAttr K C f∧fs.lookup f=some v∧Q v H1
def sFld (K:PySem.W.Frag) (ta tv:TE) (f:Str):TS:=fun D σ H=>tv σ H fun y H1=>ta σ H1 fun x H2=>∃ a C dx fs,x=.ref a∧H2 a=some (.ins C dx fs)∧Cls K C∧NoAttr K C f∧fs.length<1000 ∧
 D.nx σ (upd H2 a (.ins C dx (putF f y fs)))
def ac3 (X:Cx) (op:Operator) (rd:V→V→Hp→VK→Prop):Prop :=
 ∀ (pins:List (Addr×Obj)) (s:Shared) (σ:St) (H:Hp) (x y:V) (u v:Value) (Q:VK),Inv X pins σ H s→RelV x u→RelV y v→rd x y H Q→wpAny (model X.prog X.w) X.A (inplaceOp op u v) (EP X pins σ Q) X.xe s
section
variable {X:Cx} {o e value:Expr} {f:Str} {pos pos' tpos:Pos} {ta tv:TE}
theorem pe_fld (he:PE X e ta) (hb:attributeBase e f X.env (eval e X.env)=eval e X.env):PE X (.Attribute e f pos) (tFld X.K ta f):=by
 intro pins s σ H Q I h
 refine attr_of hb (thn (he pins s σ H _ I h) fun u s1 ⟨x,H1,I1,rx,a,C,dx,fs,v,ex,ea,c,n,l,q⟩=>?_)
 subst ex
 obtain rfl:u=Value.ref a:=rx
 exact getattr_ok I1 ea c n l fun u' s2 I2 ru=>⟨v,H1,I2,ru,q⟩
theorem ps_fld (ha:PE X o ta) (hv:PE X value tv) (hs:swapsWith value (some (.Attribute o f pos')) pos.line X.env=pure false):PS X (.Assign [.Attribute o f pos'] value pos) (sFld X.K ta tv f):=by
 intro pins s σ H D I h
 refine plainObj_wpAny_Assign_Attribute (thn (hv pins s σ H _ I h) fun u s1 ⟨y,H1,I1,ry,q⟩=>thn (ha pins s1 σ H1 _ I1 q) fun ov s2 ⟨x,H2,I2,rx,a,C,dx,fs,ex,ea,c,n,l,q2⟩=>?_) hs
 subst ex
 obtain rfl:ov=Value.ref a:=rx
 exact setattr_ok I2 ea c n l ry fun s3 I3=>⟨σ,_,I3,q2⟩
end
section
variable {X:Cx} {pins:List (Addr×Obj)} {σ:St} {H:Hp} {s:Shared} {A:Around} {E:Value→Shared→Prop} {Q:Value→Shared→Prop} {c:Value} {b:Bool}
inductive TyOf (K:PySem.W.Frag) (H:Hp):V→Value→Prop where
 | non:TyOf K H .non (.type "NoneType")
 | bl (x:Bool):TyOf K H (.bl x) (.type "bool")
 | int (i:Int):TyOf K H (.int i) (.type "int")
 | str (x:Str):TyOf K H (.str x) (.type "str")
 | flt (x:UInt64):TyOf K H (.flt x) (.type "float")
 | lst {a:Addr} {xs:List V} (e:H a=some (.lst xs)):TyOf K H (.ref a) (.type "list")
 | frz {a:Addr} {o:Obj} {xs:List V} (e:H a=some (.frz o (.lst xs))):TyOf K H (.ref a) (.type "list")
 | tup {a:Addr} {xs:List V} (e:H a=some (.tup xs)):TyOf K H (.ref a) (.type "tuple")
 | dK {a:Addr} {kvs:List (Key×V)} (e:H a=some (.dK kvs)):TyOf K H (.ref a) (.type "dict")
 | dT {a:Addr} {kvs:List (List Key×V)} (e:H a=some (.dT kvs)):TyOf K H (.ref a) (.type "dict")
 | ins {a C dx:Addr} {fs:List (Str×V)} (e:H a=some (.ins C dx fs)) (cl:Cls K C) (ha:PySem.W.findIn K (.ref C) "__class__" = some (some (.builtin "object.__class__")))
   (hn:PySem.W.specialIn K (.builtin "object.__class__") "__get__" = some (some (.builtin "getset_descriptor.__get__"))) (htk:PySem.W.takesIn K (.builtin "object.__class__")=some true)
   (hm:PySem.W.mroIn K C (.type "object")=some true):TyOf K H (.ref a) (.ref C)
theorem Rp {x:V} {u t:Value} (I:Inv X pins σ H s) (rx:RelV x u) (ty:TyOf X.K H x t) (e:PySem.W.kitOne X.K t c=some b) (h:∀ tk,Q (.bool b) { s with toks:=tk }) :
  wpAny (model X.prog X.w) A (call (.builtin "isinstance") [u,c]) Q E s:=by
 cases ty with
 | non=>cases (show u=Value.none from rx);exact PySem.W.kia_one PySem.W.kitx_none I.kIn True.intro e (fun z=>nomatch z) h
 | bl y=>cases (show u=Value.bool y from rx);exact PySem.W.kia_one PySem.W.kitx_bool I.kIn True.intro e (fun z=>nomatch z) h
 | int i=>obtain ⟨t,q⟩:=(show ∃ t,u=Value.int i t from rx);cases q;exact PySem.W.kia_one PySem.W.kitx_int I.kIn True.intro e (fun z=>nomatch z) h
 | str y=>obtain ⟨t,q⟩:=(show ∃ t,u=Value.str y t from rx);cases q;exact PySem.W.kia_one PySem.W.kitx_str I.kIn True.intro e (fun z=>nomatch z) h
 | flt y=>obtain ⟨t,q⟩:=(show ∃ t,u=Value.float y t from rx);cases q;exact PySem.W.kia_one PySem.W.kitx_float I.kIn True.intro e (fun z=>nomatch z) h
 | @lst a xs ea =>
  cases (show u=Value.ref a from rx)
  obtain ⟨_,_,n,_,h1⟩:=(show ObjOk X.prog X.w H s.heap a (.lst xs) from I.hok a _ ea)
  exact PySem.W.kia_one PySem.W.kitx_list I.kIn ⟨_,h1,rfl⟩ e (fun z=>nomatch z) h
 | @frz a ob xs ea =>
  cases (show u=Value.ref a from rx)
  obtain ⟨_,_,_,n,_,h1⟩:=(show ObjOk X.prog X.w H s.heap a (.frz ob (.lst xs)) from I.hok a _ ea)
  exact PySem.W.kia_one PySem.W.kitx_list I.kIn ⟨_,h1,rfl⟩ e (fun z=>nomatch z) h
 | @tup a xs ea =>
  cases (show u=Value.ref a from rx)
  obtain ⟨_,_,_,p⟩:=(show ObjOk X.prog X.w H s.heap a (.tup xs) from I.hok a _ ea)
  obtain ⟨o,h1,h2,_⟩:=p
  exact PySem.W.kia_one PySem.W.kitx_tuple I.kIn ⟨o,h1,h2⟩ e (fun z=>nomatch z) h
 | @dK a kvs ea =>
  cases (show u=Value.ref a from rx)
  obtain ⟨_,_,vs,_,p⟩:=(show ObjOk X.prog X.w H s.heap a (.dK kvs) from I.hok a _ ea)
  obtain ⟨o,es,ep,h1,h2,_⟩:=p
  exact PySem.W.kia_one PySem.W.kitx_dict I.kIn ⟨o,h1,h2.1⟩ e (fun z=>nomatch z) h
 | @dT a kvs ea =>
  cases (show u=Value.ref a from rx)
  obtain ⟨_,_,xs,_,o,es,ep,h1,h2,_⟩:=(show ObjOk X.prog X.w H s.heap a (.dT kvs) from I.hok a _ ea)
  exact PySem.W.kia_one PySem.W.kitx_dict I.kIn ⟨o,h1,h2.1⟩ e (fun z=>nomatch z) h
 | @ins a C dx fs ea cl ha hn htk hm =>
  cases (show u=Value.ref a from rx)
  obtain ⟨mA,O,_⟩:=ins_get I.hok ea
  obtain ⟨od,J,_⟩:=O.look
  exact PySem.W.kia_one (PySem.W.kitx_own (cl.get _) cl.hd ha hn htk hm) I.kIn J e (fun z=>nomatch z) h
end
end L2
namespace L2
open PySem PySem.Spec PyProof.Rows
structure Room (k:Nat) (A:Around):Prop where
 hd:A.handled=none
 dp:A.depth+3*k+5<recursionLimit
 un:A.units+16*k+200<cLine
theorem Room.mono {j k:Nat} {A:Around} (r:Room k A) (h:j≤k):Room j A:=⟨r.hd,by have:=r.dp;omega,by have:=r.un;omega⟩
theorem Room.deeper {k:Nat} {A:Around} (r:Room (k+1) A) (env:Env):Room k (A.deeper env) :=
 ⟨r.hd,by have:=r.dp;show A.depth+1+3*k+5<_;omega,by have:=r.un;show A.units+3+16*k+200<_;omega⟩
theorem make_depth {A:Around} {C:Addr} {us:List Value} {kw:List (Str×Value)}:(A.under (.builtin "type.__call__" ⟨.ref C::us,kw⟩)).depth=A.depth+1:=by
 first | rfl | simp [Around.under,Code.weight,Code.isCreation,Code.isGuard,Code.isCaller,Code.frames,Code.isFrame,guardIds]
theorem make_units {A:Around} {C:Addr} {us:List Value} {kw:List (Str×Value)}:(A.under (.builtin "type.__call__" ⟨.ref C::us,kw⟩)).units=A.units+1:=by
 first | rfl | simp [Around.under,Code.cUnits,Code.frames,Code.isFrame]
theorem Room.make {k:Nat} {A:Around} (r:Room (k+1) A) (C:Addr) (us:List Value) (kw:List (Str×Value)):Room k (A.under (.builtin "type.__call__" ⟨.ref C::us,kw⟩)) :=
 ⟨r.hd,by have:=r.dp;rw [make_depth];omega,by have:=r.un;rw [make_units];omega⟩
theorem Room.depth {k:Nat} {A:Around} (r:Room k A):A.depth<recursionLimit:=by have:=r.dp;omega
theorem Room.units {k:Nat} {A:Around} (r:Room k A):A.units+64<cLine:=by have:=r.un;omega
def tNil:TA:=fun _ H Q=>Q [] H
def tCons (ta:TE) (tr:TA):TA:=fun σ H Q=>ta σ H fun x H1=>tr σ H1 fun xs H2=>Q (x::xs) H2
section
variable {X:Cx} {e:Expr} {es:List Expr} {te:TE} {t:TA} {pos:Pos}
theorem pa_nil:PA X [] tNil:=fun _ _ _ _ H Q I h=>Calls.spliced_nil ⟨[],H,I,.nil,h⟩
theorem pa_cons (ha:PE X e te) (hr:PA X es t) (hs:starEach (e::es) X.env=(false,eval e X.env)::starEach es X.env:=by rfl):PA X (e::es) (tCons te t):=by
 intro pos pins s σ H Q I h
 rw [hs]
 show wpAny _ _ (spliced ((false,eval e X.env)::backTo pos (starEach es X.env))) _ _ s
 refine Calls.spliced_cons (thn (ha pins s σ H _ I h) fun u s1 ⟨x,H1,I1,r1,q1⟩=>?_)
 exact thn (hr pos pins s1 σ H1 _ I1 q1) fun us s2 ⟨xs,H2,I2,r2,q2⟩=>⟨x::xs,H2,I2,.cons r1 r2,q2⟩
def Z1 (t:TA):TE:=fun σ H Q=>t σ H fun xs H1=>xs.length≤sizeLine∧∀ p,H1 p=none→Q (.ref p) (upd H1 p (.tup xs))
def tLst (t:TA):TE:=fun σ H Q=>t σ H fun xs H1=>xs.length≤sizeLine∧∀ p,H1 p=none→Q (.ref p) (upd H1 p (.lst xs))
theorem Z2 {x1} (h:PA X es t):PE X (.Tuple es x1 pos) (Z1 t):=by
 intro pins s σ H Q I hq
 refine wpAny_Tuple_spliced (thn (h pos pins s σ H _ I hq) fun us s1 ⟨xs,H1,I1,r,z,q⟩=>⟨by rw [←r.length];exact z,?_⟩)
 have hf:H1 s1.heap.objs.size=none:=I1.hok.fresh (Nat.le_refl _)
 refine ⟨.ref s1.heap.objs.size,upd H1 s1.heap.objs.size (.tup xs),I1.laid (t':=s1.toks) (fun b u e=>Heap.get?_push_of_some _ e) (Nat.le_refl _) ?_,rfl,q _ hf⟩
 exact ⟨z,us,r,⟨_,Heap.get?_push_size _ rfl,rfl,_,rfl⟩⟩
theorem pe_lst (h:PA X es t):PE X (.List es pos) (tLst t):=by
 intro pins s σ H Q I hq
 refine wpAny_List_spliced (thn (h pos pins s σ H _ I hq) fun us s1 ⟨xs,H1,I1,r,z,q⟩=>⟨by rw [←r.length];exact z,?_⟩)
 have hf:H1 s1.heap.objs.size=none:=I1.hok.fresh (Nat.le_refl _)
 refine ⟨.ref s1.heap.objs.size,upd H1 s1.heap.objs.size (.lst xs),I1.laid (t':=s1.toks) (fun b u e=>Heap.get?_push_of_some _ e) (Nat.le_refl _) ?_,rfl,q _ hf⟩
 exact ⟨z,us,0,r,Heap.get?_push_size _ rfl⟩
end
abbrev Sp:=List V→Hp→VK→XK→Prop
abbrev CXT:=List Env→Hp→Shared→XK→Value→Shared→Prop
structure Env0 (P:Program) (w:World) (K:PySem.W.Frag) (mg:Str→Option Value) (base:Heap) (A:Around) (outer:List Env) (s:Shared) (H:Hp):Prop where
 frames:A.frames=some outer
 mod:Mod K mg base
 bs:∀ b o,base.get? b=some o→s.heap.get? b=some o∧H b=none
 bsz:base.objs.size≤s.heap.objs.size
 funs:s.heap.FunFrames base outer
 frf:∀ b∈frs outer,H b=none
 hok:HOk P w H s.heap
 bare:AllBare s.gens
def CE (outer:List Env) (P:Program) (w:World) (H:Hp) (s:Shared) (Q:VK) (u:Value) (s':Shared):Prop :=
 ∃ v H',s'.os=s.os∧AllBare s'.gens∧Un (frs outer) [] H H' s.heap s'.heap∧HOk P w H' s'.heap∧RelV v u∧Q v H'
def CR (CX:CXT) (outer:List Env) (P:Program) (w:World) (H:Hp) (s:Shared) (Q:VK) (E:XK) (r:Result) (s':Shared):Prop :=
 match r with
 | .ok (.ret u)=>CE outer P w H s Q u s'
 | .ok _=>False
 | .error e=>CX outer H s E e s'
structure FnOk (P:Program) (w:World) (K:PySem.W.Frag) (mg:Str→Option Value) (base:Heap) (CX:CXT) (k:Nat) (f:Addr) (fd:FuncData) (ps:List Str) (sp:Sp):Prop where
 len:∀ vs H Q E,sp vs H Q E→vs.length=ps.length
 run:∀ (A:Around) (outer:List Env) (s:Shared) (H:Hp) (args:Args) (us:List Value) (vs:List V) (Q:VK) (E:XK),Room k A→Env0 P w K mg base A outer s H→BindsTo s fd args (ps.zip us)→Vals vs us→sp vs H Q E →
  codeAny (model P w) A (.call (.ref f) args) (CR CX outer P w H s Q E) s
theorem Env0.make {P:Program} {w:World} {K:PySem.W.Frag} {mg:Str→Option Value} {base:Heap} {A:Around} {outer:List Env} {s:Shared} {H:Hp} (e:Env0 P w K mg base A outer s H) (C:Addr) (us:List Value) (kw:List (Str×Value)) :
  Env0 P w K mg base (A.under (.builtin "type.__call__" ⟨.ref C::us,kw⟩)) outer s H:=⟨by first | exact e.frames | (simpa [Around.under,Code.envs,Code.isFrame,pushEnvs] using e.frames),e.mod,e.bs,e.bsz,e.funs,e.frf,e.hok,e.bare⟩
section
variable {X:Cx} {pins:List (Addr×Obj)} {σ:St} {H:Hp} {s s':Shared}
theorem Inv.env0 (I:Inv X pins σ H s):Env0 X.prog X.w X.K X.mg X.base X.A X.stack s H :=
 ⟨I.ok.frames,I.ok.mod,I.bs,Nat.le_trans I.ok.bsz I.sz,I.stack,I.stkFree,I.hok,I.bare⟩
theorem Inv.after {Q:VK} {u:Value} (I:Inv X pins σ H s) (h:CE X.stack X.prog X.w H s Q u s'):EP X pins σ Q u s':=by
 obtain ⟨v,H',os,bare,un,hok,r,q⟩:=h
 obtain ⟨hh,g,d,t,os'⟩:=s'
 obtain rfl:os' = s.os:=os
 exact ⟨v,H',I.call (h':=hh) (g':=g) (d':=d) (t':=t) (ch:=[]) un hok bare (fun b z=>absurd z (by simp)),r,q⟩
end
def tCall (sp:Sp) (dvs:List V) (E:XK) (t:TA):TE:=fun σ H Q=>t σ H fun vs H1=>sp (vs++dvs) H1 Q E
def tMeth (C:Addr) (m:Str) (sp:Sp) (dvs:List V) (E:XK) (ta:TE) (t:TA):TE:=fun σ H Q=>ta σ H fun x H1=>∃ a dx fs,x=.ref a∧H1 a=some (.ins C dx fs)∧fs.lookup m=none ∧
 t σ H1 fun vs H2=>sp (x::(vs++dvs)) H2 Q E
def tMake (C:Addr) (sp:Sp) (dvs:List V) (E:XK) (t:TA):TE:=fun σ H Q=>t σ H fun vs H1=>∀ x dx,H1 x=none→H1 dx=none→dx≠x →
 sp (.ref x::(vs++dvs)) (upd (upd H1 dx (.own x)) x (.ins C dx [])) (fun v H2=>v=.non∧Q (.ref x) H2) E
def Binds (K:PySem.W.Frag) (fd:FuncData) (ps:List Str) (ds:List Value):Prop :=
 ∀ (s:Shared) (us:List Value),K.In s.heap→(us++ds).length=ps.length→BindsTo s fd ⟨us,[]⟩ (ps.zip (us++ds))
theorem Binds.all {K:PySem.W.Frag} {fd:FuncData} {ps:List Str} (h:∀ us:List Value,us.length=ps.length→bindArgs fd ⟨us,[]⟩=pure (ps.zip us)):Binds K fd ps []:=fun s us _ hl=>by
 rw [List.append_nil] at hl ⊢
 exact .of_eq (h us hl)
def Passes (CX:CXT) (X:Cx) (E:XK):Prop:=∀ (pins:List (Addr×Obj)) (σ:St) (H:Hp) (s:Shared) (e:Value) (s':Shared),Inv X pins σ H s→CX X.stack H s E e s'→X.xe e s'
section
variable {X:Cx} {CX:CXT} {k:Nat} {f C:Addr} {fd:FuncData} {ps:List Str} {sp:Sp} {dvs:List V} {ds:List Value} {E:XK} {x m:Str} {p pos apos:Pos} {e o:Expr} {es:List Expr} {ta:TE} {t:TA}
theorem run_fn {pins:List (Addr×Obj)} {σ:St} {H:Hp} {s:Shared} {Q:VK} {us:List Value} {vs:List V} (F:FnOk X.prog X.w X.K X.mg X.base CX k f fd ps sp) (hr:Room k X.A) (hb:Binds X.K fd ps ds) (hd:Vals dvs ds) (hx:Passes CX X E)
  (I:Inv X pins σ H s) (r:Vals vs us) (h:sp (vs++dvs) H Q E):wpAny (model X.prog X.w) X.A (call (.ref f) us) (EP X pins σ Q) X.xe s:=by
 have r2:Vals (vs++dvs) (us++ds):=r.append hd
 have hl:(us++ds).length=ps.length:=by rw [←r2.length];exact F.len _ _ _ _ h
 refine wpAny_call (codeAny_mono (F.run X.A X.stack s H ⟨us,[]⟩ (us++ds) (vs++dvs) Q E hr I.env0 (hb s us I.kIn hl) r2 h) fun r s' hq=>?_)
 cases r with
 | error e=>exact hx pins σ H s e s' I hq
 | ok fl =>
  cases fl with
  | ret u=>exact I.after hq
  | next=>exact False.elim hq
  | brk=>exact False.elim hq
  | cont=>exact False.elim hq
theorem pe_call (F:FnOk X.prog X.w X.K X.mg X.base CX k f fd ps sp) (hr:Room k X.A) (hg:Gl X x) (hm:X.mg x=some (.ref f)) (hk:PySem.W.keepIn X.K (.ref f)=true) (hb:Binds X.K fd ps ds) (hd:Vals dvs ds) (hx:Passes CX X E)
  (ha:PA X (e::es) t) (hdb:(x == ("__debug__":Str))=false:=by decide) (he:starEach (e::es) X.env=(false,eval e X.env)::starEach es X.env:=by rfl) (hpl:(backTo pos (starEach es X.env)).any (·.1)=false:=by rfl) :
  PE X (.Call (.Name x p) (e::es) [] pos) (tCall sp dvs E t):=by
 intro pins s σ H Q I h
 refine wpAny_Call_Name_kw (ld_glob I hg hm ?_ hdb)
 refine PySem.W.callWith_K (h₀:=X.base) I.ok.mod.kin hk (thn (ha pos pins s σ H _ I h) fun us s1 ⟨vs,H1,I1,r,q⟩=>⟨I1.kIn,?_⟩) he hpl
 exact run_fn F hr hb hd hx I1 r q
theorem pe_meth {pl:Sem Bool} (he:PE X o ta) (c:Cls X.K C) (hm:Meth X.K C m f) (F:FnOk X.prog X.w X.K X.mg X.base CX k f fd ps sp) (hr:Room k X.A) (hb:Binds X.K fd ps ds) (hd:Vals dvs ds) (hx:Passes CX X E) (ha:PA X (e::es) t)
  (hst:starEach (e::es) X.env=(false,eval e X.env)::starEach es X.env:=by rfl) (hpl:(backTo pos (starEach es X.env)).any (·.1)=false:=by rfl)
  (ht:eval (.Call (.Attribute o m apos) (e::es) [] pos) X.env=(do
   let ov ←eval o X.env
   standAt apos.atName
   let (f,first) ←holding [ov] (getMethod ov m pl)
   callWith pos f first (backTo pos (starEach (e::es) X.env)) (backToKw pos (keywordEach [] X.env))):=by rfl) :
  PE X (.Call (.Attribute o m apos) (e::es) [] pos) (tMeth C m sp dvs E ta t):=by
 intro pins s σ H Q I h
 refine PySem.W.methodCall_KW (pl:=pl) (thn (he pins s σ H _ I h) fun u s1 ⟨x,H1,I1,rx,a,dx,fs,ex,ea,l,q⟩=>?_) ht
 subst ex
 obtain rfl:u=Value.ref a:=rx
 refine getmeth_ok I1 ea c hm l ?_
 refine PySem.W.callWith_K (first:=[.ref a]) (h₀:=X.base) I.ok.mod.kin hm.kp (thn (ha pos pins s1 σ H1 _ I1 q) fun us s2 ⟨vs,H2,I2,r,q2⟩=>⟨I2.kIn,?_⟩) hst hpl
 exact run_fn (us:=.ref a::us) (vs:=.ref a::vs) F hr hb hd hx I2 (.cons rfl r) q2
theorem Tj {pl:Sem Bool} (he:PE X o ta) (c:Cls X.K C) (hm:Meth X.K C m f) (F:FnOk X.prog X.w X.K X.mg X.base CX k f fd ps sp) (hr:Room k X.A) (hb:Binds X.K fd ps ds) (hd:Vals dvs ds) (hx:Passes CX X E)
  (ht:eval (.Call (.Attribute o m apos) [] [] pos) X.env=(do
   let ov ←eval o X.env
   standAt apos.atName
   let (f,first) ←holding [ov] (getMethod ov m pl)
   callWith pos f first (backTo pos (starEach [] X.env)) (backToKw pos (keywordEach [] X.env))):=by rfl) :
  PE X (.Call (.Attribute o m apos) [] [] pos) (tMeth C m sp dvs E ta tNil):=by
 intro pins s σ H Q I h
 refine PySem.W.methodCall_KW (pl:=pl) (thn (he pins s σ H _ I h) fun u s1 ⟨x,H1,I1,rx,a,dx,fs,ex,ea,l,q⟩=>?_) ht
 subst ex
 obtain rfl:u=Value.ref a:=rx
 refine getmeth_ok I1 ea c hm l ?_
 exact PySem.W.callWith_K0 (first:=[.ref a]) I1.kIn hm.kp (run_fn (us:=[.ref a]) (vs:=[.ref a]) F hr hb hd hx I1 (.cons rfl .nil) q)
structure Mk (K:PySem.W.Frag) (C f:Addr):Prop where
 makes:PySem.W.makesIn K C=true
 init:PySem.W.findIn K (.ref C) "__init__" = some (some (.ref f))
 fn:PySem.W.isFn K (.ref f)=true
 kp:PySem.W.keepIn K (.ref C)=true
theorem run_make {pins:List (Addr×Obj)} {σ:St} {H:Hp} {s:Shared} {Q:VK} {us:List Value} {vs:List V} (M:Mk X.K C f) (F:FnOk X.prog X.w X.K X.mg X.base CX k f fd ps sp) (hr:Room (k+1) X.A) (hb:Binds X.K fd ps ds) (hd:Vals dvs ds)
  (hx:Passes CX X E) (I:Inv X pins σ H s) (r:Vals vs us)
  (h:∀ x dx,H x=none→H dx=none→dx≠x→sp (.ref x::(vs++dvs)) (upd (upd H dx (.own x)) x (.ins C dx [])) (fun v H2=>v=.non∧Q (.ref x) H2) E) :
  wpAny (model X.prog X.w) X.A (call (.ref C) us) (EP X pins σ Q) X.xe s:=by
 have hq:=h (s.heap.objs.size+1) s.heap.objs.size (I.hok.fresh (Nat.le_succ _)) (I.hok.fresh (Nat.le_refl _)) (Nat.ne_of_lt (Nat.lt_succ_self _))
 have I2:=Inv.made (C:=C) I
 have r2:Vals (V.ref (s.heap.objs.size+1)::(vs++dvs)) (Value.ref (s.heap.objs.size+1)::(us++ds)):=.cons rfl (r.append hd)
 have hl:(Value.ref (s.heap.objs.size+1)::us++ds).length=ps.length:=by
  have e:=r2.length
  rw [F.len _ _ _ _ hq] at e
  exact e.symm
 refine wpAny_call (make_map (f:=f) I.kIn M.makes M.init (beq_iff_eq.mp M.fn) (codeAny_mono (F.run _ X.stack _ _ ⟨Value.ref (s.heap.objs.size+1)::us,[]⟩ (Value.ref (s.heap.objs.size+1)::(us++ds)) _ _ E (hr.make C us [])
  (I2.env0.make C us []) (hb _ (Value.ref (s.heap.objs.size+1)::us) I2.kIn hl) r2 hq) fun r s' hq'=>?_))
 cases r with
 | error e=>exact hx pins σ _ _ e s' I2 hq'
 | ok fl =>
  cases fl with
  | ret u =>
   obtain ⟨v,H',I3,rv,ev,q3⟩:=I2.after hq'
   subst ev
   exact ⟨rv,⟨V.ref (s.heap.objs.size+1),H',I3,rfl,q3⟩⟩
  | next=>exact False.elim hq'
  | brk=>exact False.elim hq'
  | cont=>exact False.elim hq'
theorem Xh (M:Mk X.K C f) (F:FnOk X.prog X.w X.K X.mg X.base CX k f fd ps sp) (hr:Room (k+1) X.A) (hg:Gl X x) (hm:X.mg x=some (.ref C)) (hb:Binds X.K fd ps ds) (hd:Vals dvs ds) (hx:Passes CX X E)
  (ha:PA X (e::es) t) (hdb:(x == ("__debug__":Str))=false:=by decide) (he:starEach (e::es) X.env=(false,eval e X.env)::starEach es X.env:=by rfl) (hpl:(backTo pos (starEach es X.env)).any (·.1)=false:=by rfl) :
  PE X (.Call (.Name x p) (e::es) [] pos) (tMake C sp dvs E t):=by
 intro pins s σ H Q I h
 refine wpAny_Call_Name_kw (ld_glob I hg hm ?_ hdb)
 refine PySem.W.callWith_K (h₀:=X.base) I.ok.mod.kin M.kp (thn (ha pos pins s σ H _ I h) fun us s1 ⟨vs,H1,I1,r,q⟩=>⟨I1.kIn,?_⟩) he hpl
 exact run_make M F hr hb hd hx I1 r q
theorem pe_make0 (M:Mk X.K C f) (F:FnOk X.prog X.w X.K X.mg X.base CX k f fd ps sp) (hr:Room (k+1) X.A) (hg:Gl X x) (hm:X.mg x=some (.ref C)) (hb:Binds X.K fd ps ds) (hd:Vals dvs ds) (hx:Passes CX X E)
  (hdb:(x == ("__debug__":Str))=false:=by decide):PE X (.Call (.Name x p) [] [] pos) (tMake C sp dvs E tNil):=by
 intro pins s σ H Q I h
 refine wpAny_Call_Name_kw (ld_glob I hg hm ?_ hdb)
 exact PySem.W.callWith_K0 I.kIn M.kp (run_make (us:=[]) M F hr hb hd hx I .nil h)
end
section
variable {X:Cx} {CX:CXT} {k:Nat} {f C:Addr} {fd:FuncData} {ps ks:List Str} {sp:Sp} {E:XK} {x m:Str} {p pos apos kpos:Pos} {e o:Expr} {es:List Expr} {kws:List Keyword} {te ta:TE} {t tk:TA} {nm:Option Str}
variable {g:List Value→List Value→List Value} {gV:List V→List V→List V}
end
structure FnScope (N P:List Str) (sc:Scope):Prop where
 kind:sc.kind=.function
 co:sc.isCoroutine=false
 gen:sc.isGenerator=false
 nd:N.Nodup
 pre:N.take P.length=P
 par:∀ x∈P,sc.names.lookup x=some .local∨sc.names.lookup x=some .cell
 nofree:∀ y∈sc.names,y.2≠.free
theorem bindL_out {kindOf:Str→Option NameKind} {x:Str}:∀ {binds:List (Str×Value)} {m:Str→Option Value},(∀ v,(x,v) ∉ binds)→bindL kindOf binds m x=m x
 | [],_,_=>rfl
 | (n,v)::r,m,h=>by
  unfold bindL
  rw [bindL_out fun w hw=>h w (List.mem_cons_of_mem _ hw)]
  split
  ·have:x≠n:=by rintro rfl;exact h v List.mem_cons_self
   simp [this]
  ·rfl
theorem bindC_out {kindOf:Str→Option NameKind} {x:Str}:∀ {binds:List (Str×Value)} {m:Str→Option Value},(∀ v,(x,v) ∉ binds)→bindC kindOf binds m x=m x
 | [],_,_=>rfl
 | (n,v)::r,m,h=>by
  unfold bindC
  rw [bindC_out fun w hw=>h w (List.mem_cons_of_mem _ hw)]
  split
  ·rfl
  ·have:x≠n:=by rintro rfl;exact h v List.mem_cons_self
   simp [this]
theorem bindL_get {kindOf:Str→Option NameKind} {x:Str} {v:Value}:∀ {P:List Str} {vs:List Value} {i:Nat} {m:Str→Option Value},P.Nodup→P[i]? = some x→vs[i]? = some v→kindOf x=some .local →
  bindL kindOf (P.zip vs) m x=some v
 | [],_,_,_,_,h,_,_=>by simp at h
 | _::_,[],_,_,_,_,h,_=>by simp at h
 | p::P,w::vs,0,m,nd,h1,h2,hk=>by
  simp at h1 h2;subst h1;subst h2
  show bindL kindOf ((p,w)::P.zip vs) m p=_
  unfold bindL
  rw [bindL_out fun v hv=>(List.nodup_cons.mp nd).1 (List.of_mem_zip hv).1,if_pos hk]
  simp
 | p::P,w::vs,i+1,m,nd,h1,h2,hk=>by
  show bindL kindOf ((p,w)::P.zip vs) m x=_
  unfold bindL
  exact bindL_get (i:=i) (List.nodup_cons.mp nd).2 (by simpa using h1) (by simpa using h2) hk
theorem bindC_get {kindOf:Str→Option NameKind} {x:Str} {v:Value}:∀ {P:List Str} {vs:List Value} {i:Nat} {m:Str→Option Value},P.Nodup→P[i]? = some x→vs[i]? = some v→kindOf x≠some .local →
  bindC kindOf (P.zip vs) m x=some v
 | [],_,_,_,_,h,_,_=>by simp at h
 | _::_,[],_,_,_,_,h,_=>by simp at h
 | p::P,w::vs,0,m,nd,h1,h2,hk=>by
  simp at h1 h2;subst h1;subst h2
  show bindC kindOf ((p,w)::P.zip vs) m p=_
  unfold bindC
  rw [bindC_out fun v hv=>(List.nodup_cons.mp nd).1 (List.of_mem_zip hv).1,if_neg hk]
  simp
 | p::P,w::vs,i+1,m,nd,h1,h2,hk=>by
  show bindC kindOf ((p,w)::P.zip vs) m x=_
  unfold bindC
  exact bindC_get (i:=i) (List.nodup_cons.mp nd).2 (by simpa using h1) (by simpa using h2) hk
def start (N:List Str) (vs:List V):St:=vs.map some++List.replicate (N.length - vs.length) none
def cxOf (CX:CXT) (P:Program) (w:World) (K:PySem.W.Frag) (mg:Str→Option Value) (base:Heap) (N:List Str) (qual:Str) (scope:Scope) (f:Addr) (cd:Value) (A:Around) (outer:List Env) (s:Shared) (H:Hp) (E:XK):Cx where
 prog:=P
 w:=w
 K:=K
 mg:=mg
 base:=base
 A:=A.deeper (envOfC qual scope s.heap.objs.size f cd)
 N:=N
 s₀:=s
 H₀:=H
 env:=envOfC qual scope s.heap.objs.size f cd
 outer:=outer
 stack:=envOfC qual scope s.heap.objs.size f cd::outer
 ex:=[]
 calm:=true
 fn:=fun _=>true
 pn:=[]
 xe:=fun e s'=>wpAny (model P w) (A.deeper (envOfC qual scope s.heap.objs.size f cd)) (leaving (envOfC qual scope s.heap.objs.size f cd) e) (fun _ s''=>CX outer H s E e s'') (fun e' s''=>CX outer H s E e' s'') s'
theorem cell_has {sc:Scope} {n:Nat} {x:Str} (h:sc.names.lookup x=some .cell):∃ c,(cellsFrom n sc.names []).lookup x=some c:=by
 have q:=PySem.W.cellsFrom_some sc.names n [] (.inl h)
 exact Option.isSome_iff_exists.mp q
theorem inv_start {CX:CXT} {P:Program} {w:World} {K:PySem.W.Frag} {mg:Str→Option Value} {base:Heap} {N ps:List Str} {qual:Str} {scope:Scope} {f:Addr} {cd:Value} {A:Around} {outer:List Env} {s s1:Shared} {H:Hp} {E:XK} {us:List Value} {vs:List V}
  (S:FnScope N ps scope) (hd:A.handled=none) (e0:Env0 P w K mg base A outer s H) (hl:vs.length=ps.length) (r:Vals vs us)
  (x:InCallC s s.heap.objs.size (bindL (envOfC qual scope s.heap.objs.size f cd).kindOf (ps.zip us) fun _=>none) (cellsFrom (s.heap.objs.size+1) scope.names []) (bindC (envOfC qual scope s.heap.objs.size f cd).kindOf (ps.zip us) fun _=>none) s1) :
  Inv (cxOf CX P w K mg base N qual scope f cd A outer s H E) [] (start N vs) H s1:=by
 have hpl:ps.length≤N.length:=by have:=congrArg List.length S.pre;rw [List.length_take] at this;omega
 obtain ⟨h1,tk,rfl,hk⟩:=x.done
 have noA:∀ b:Addr,b ∉ (cxOf CX P w K mg base N qual scope f cd A outer s H E).ex:=fun b z=>absurd (show b∈([]:List Addr) from z) (by simp)
 refine ⟨⟨e0.mod,S.kind,rfl,rfl,Nat.le_refl _,fun y z c h1 h2=>?_,fun y hy=>?_,fun y c _ h=>?_,fun _=>hd,Around.frames_deeper e0.frames,.inr ⟨rfl,rfl⟩,fun b z=>absurd z (noA b),e0.bs,e0.bsz,fun b _ _=>noA b,fun b z=>absurd z (noA b),e0.funs,e0.frf⟩,
  rfl,e0.bare,Un.kept hk,⟨_,x.toInCall.ns,fun i y v h1 h2 h3=>?_⟩,fun y c h=>⟨_,x.cell y c h⟩,e0.hok.fresh (Nat.le_refl _),fun y c h=>?_,fun p hp=>absurd (show p∈([]:List (Addr×Obj)) from hp) (by simp),e0.hok.kept hk,?_⟩
 ·exact name_of_addr x.apart (PySem.mem_of_lookup h1) (PySem.mem_of_lookup h2)
 ·have hy:scope.names.lookup y=some .cell∨scope.names.lookup y=some .free:=hy
  rcases hy with hy | hy
  ·exact cell_has hy
  ·exact absurd rfl (S.nofree _ (PySem.mem_of_lookup hy))
 ·exact Nat.le_of_lt (x.above y c (PySem.mem_of_lookup h))
 ·have hi:i<vs.length:=by
   unfold start at h2
   by_cases hi:i<vs.length
   ·exact hi
   ·rw [List.getElem?_append_right (by simpa using hi)] at h2
    rw [List.getElem?_replicate] at h2
    split at h2 <;> cases h2
  have ha:vs[i]? = some v:=by
   unfold start at h2
   rw [List.getElem?_append_left (by simpa using hi),List.getElem?_map] at h2
   cases e:vs[i]? with
   | none=>rw [e] at h2;cases h2
   | some a=>rw [e] at h2;cases h2;rfl
  obtain ⟨u,hu,rv⟩:=r.get ha
  have hp:ps[i]? = some y:=by
   rw [←S.pre,List.getElem?_take_of_lt (by omega)];exact h1
  have ndP:ps.Nodup:=by rw [←S.pre];exact S.nd.sublist (List.take_sublist _ _)
  refine ⟨u,rv,?_⟩
  rcases S.par y (List.mem_of_getElem? hp) with k | k
  ·exact .inl ⟨k,bindL_get ndP hp hu k⟩
  ·obtain ⟨c,e⟩:=cell_has (n:=s.heap.objs.size+1) k
   refine .inr ⟨.inl k,c,e,?_⟩
   have q:=x.cell y c e
   rw [bindC_get ndP hp hu (by show scope.names.lookup y≠_;rw [k];decide)] at q
   exact q
 ·exact e0.hok.fresh (Nat.le_of_lt (x.above y c (PySem.mem_of_lookup h)))
 ·unfold start
  show _=N.length
  rw [List.length_append,List.length_map,List.length_replicate]
  omega
theorem fn_of {CX:CXT} {P:Program} {w:World} {K:PySem.W.Frag} {mg:Str→Option Value} {base:Heap} {k:Nat} {f:Addr} {name qual:Str} {params:Arguments} {body:List Stmt} {scope:Scope} {dV kV doc pm cdv ct oc:Value} {an od:Option Addr}
  {osl:Array (Option Value)} {N ps:List Str} {sp:Sp} (lk:K.lookup f=some ⟨oc,od,.func (PySem.W.fnOf name qual params body scope dV kV doc pm an cdv ct),osl⟩) (hcd:PySem.W.codeIn K cdv qual=true) (S:FnScope N ps scope)
  (len:∀ vs H Q E,sp vs H Q E→vs.length=ps.length)
  (hbody:∀ (A:Around) (outer:List Env) (s:Shared) (H:Hp) (vs:List V) (Q:VK) (E:XK),Room k (A.deeper (envOfC qual scope s.heap.objs.size f cdv))→sp vs H Q E →
   ∃ t,PSs (cxOf CX P w K mg base N qual scope f cdv A outer s H E) body t∧t { nx:=fun _ H'=>Q .non H',rt:=Q } (start N vs) H) :
  FnOk P w K mg base CX (k+1) f (PySem.W.fnOf name qual params body scope dV kV doc pm an cdv ct) ps sp:=by
 refine ⟨len,fun A outer s H args us vs Q E hr e0 hb r hsp=>?_⟩
 have hl:=len _ _ _ _ hsp
 have KX:K.In s.heap:=e0.mod.kin.keeps fun b o e=>(e0.bs b o e).1
 have lim:s.heap.NoLimit:=e0.mod.nolimit.keeps fun b o e=>(e0.bs b o e).1
 have hkind:∀ y∈ps.zip us,scope.names.lookup y.1=some .local∨(scope.names.lookup y.1=some .cell∧((cellsFrom (s.heap.objs.size+1) scope.names []).lookup y.1).isSome=true):=fun ⟨n,v⟩ hy=>by
  rcases S.par n (List.of_mem_zip hy).1 with q | q
  ·exact .inl q
  ·exact .inr ⟨q,PySem.W.cellsFrom_some _ _ _ (.inl q)⟩
 refine codeAny_call_function hr.depth (KX _ _ lk) rfl S.co S.gen rfl (PySem.W.codeRec_of KX hcd) (hb _ _ _ _ ?_)
 refine wpAny_newFunctionEnv_cells S.kind hkind fun env he s1 x=>?_
 subst he
 refine ⟨lim.keeps x.toInCall.keep,codeAny_func ?_⟩
 obtain ⟨t,ht,hq⟩:=hbody A outer s H vs Q E (hr.deeper _) hsp
 have I:Inv (cxOf CX P w K mg base N qual scope f cdv A outer s H E) [] (start N vs) H s1:=inv_start S hr.hd e0 hl r x
 refine wpAny_mono (ht [] s1 (start N vs) H _ I hq) (fun fl s' hs=>?_) fun e s' hs=>hs
 have fin:∀ {σ':St} {H':Hp} {v:V} {u:Value},Inv (cxOf CX P w K mg base N qual scope f cdv A outer s H E) [] σ' H' s'→RelV v u→Q v H'→CE outer P w H s Q u s' :=
  fun {σ' H' v u} J rv q=>⟨v,H',J.os,J.bare,J.base,J.hok,rv,q⟩
 cases fl with
 | ret u =>
  obtain ⟨v,σ',H',J,rv,q⟩:=hs
  exact fin J rv q
 | next =>
  obtain ⟨σ',H',J,q⟩:=hs
  exact fin (v:=V.non) (u:=Value.none) J rfl q
 | brk =>
  obtain ⟨_,_,_,q⟩:=hs
  exact False.elim q
 | cont =>
  obtain ⟨_,_,_,q⟩:=hs
  exact False.elim q
end L2
namespace L2
open PySem PySem.Spec PyProof.Rows
section
variable {X:Cx} {x:Str} {p pos:Pos} {e:Expr} {es:List Expr} {t:TA} {id T:String} {r:List V→Hp→VK→Prop}
def tCB (r:List V→Hp→VK→Prop) (t:TA):TE:=fun σ H Q=>t σ H fun vs H1=>r vs H1 Q
theorem pe_callB (hc:CallR X (.builtin id) r) (hg:Gl X x) (hm:X.mg x=none) (hv:bootBuiltins x=some (.builtin id)) (ha:PA X (e::es) t) (hn:x ≠ "__name__":=by decide) (hdb:(x == ("__debug__":Str))=false:=by decide)
  (he:starEach (e::es) X.env=(false,eval e X.env)::starEach es X.env:=by rfl) (hpl:(backTo pos (starEach es X.env)).any (·.1)=false:=by rfl):PE X (.Call (.Name x p) (e::es) [] pos) (tCB r t):=by
 intro pins s σ H Q I h
 refine wpAny_Call_Name_kw (ld_blt I hg hm hv ?_ hn hdb)
 exact PyProof.Rows.callWith_builtin1 (thn (ha pos pins s σ H _ I h) fun us s1 ⟨vs,H1,I1,r1,q1⟩=>hc pins s1 σ H1 vs us Q I1 r1 q1) he hpl
theorem Rq (hc:CallR X (.type T) r) (hg:Gl X x) (hm:X.mg x=none) (hv:bootBuiltins x=some (.type T)) (ha:PA X (e::es) t) (hn:x ≠ "__name__":=by decide) (hdb:(x == ("__debug__":Str))=false:=by decide)
  (he:starEach (e::es) X.env=(false,eval e X.env)::starEach es X.env:=by rfl) (hpl:(backTo pos (starEach es X.env)).any (·.1)=false:=by rfl):PE X (.Call (.Name x p) (e::es) [] pos) (tCB r t):=by
 intro pins s σ H Q I h
 refine wpAny_Call_Name_kw (ld_blt I hg hm hv ?_ hn hdb)
 exact PyProof.Rows.callWith_type1 (thn (ha pos pins s σ H _ I h) fun us s1 ⟨vs,H1,I1,r1,q1⟩=>hc pins s1 σ H1 vs us Q I1 r1 q1) he hpl
end
end L2
namespace HT
open PySem PyProof.Rows
section
open PySem.SeqAt
open PySem.AutoSeq1 (wpAny_loadPart')
open PySem.MeetsSeq PySem.MeetsSeq2 PySem.MeetsSeq3
end
section
variable {prog:Program} {w:World} {A:Around} {E:Value→Shared→Prop} {s:Shared}
def iM (n d:Nat):Option Int→Nat
 | none=>d
 | some v=>if v<0 then (v+(n:Int)).toNat else min v.toNat n
theorem Jg (n d:Nat):iM n d none=d:=rfl
theorem mJ (n d k:Nat):iM n d (some (k:Int))=min k n:=by
 show (if (k:Int)<0 then ((k:Int)+(n:Int)).toNat else min (k:Int).toNat n)=min k n
 rw [if_neg (by omega),Int.toNat_natCast]
theorem Z4 (n d:Nat) (hd:d≤n) (o:Option Int):iM n d o≤n:=by
 cases o with
 | none=>exact hd
 | some v =>
  show (if v<0 then (v+(n:Int)).toNat else min v.toNat n)≤n
  by_cases hv:v<0
  ·rw [if_pos hv];omega
  ·rw [if_neg hv];exact Nat.min_le_right _ _
theorem NT (v:Int) (n d:Nat):(if v<0 then max (v+(n:Int)) 0 else min v (n:Int))=((iM n d (some v):Nat):Int):=by
 show (if v<0 then max (v+(n:Int)) 0 else min v (n:Int))=(((if v<0 then (v+(n:Int)).toNat else min v.toNat n):Nat):Int)
 by_cases hv:v<0
 ·simp only [if_pos hv];omega
 ·simp only [if_neg hv];omega
theorem La (lo hi:Option Int) (n:Nat):Builtin.Slice.sliceAdjust lo hi 1 (n:Int)=(((iM n 0 lo:Nat):Int),((iM n n hi:Nat):Int)):=by
 have h1:¬ ((1:Int)<0):=by omega
 unfold Builtin.Slice.sliceAdjust
 simp only [h1,if_false]
 refine Prod.ext ?_ ?_
 ·cases lo with
  | none=>rfl
  | some v=>exact NT v n 0
 ·cases hi with
  | none=>rfl
  | some v=>exact NT v n n
theorem Lb (i j:Nat):Builtin.Slice.slicePlaces (i:Int) (j:Int) 1=j - i:=by
 unfold Builtin.Slice.slicePlaces
 have h1:(1:Int) > 0:=by omega
 simp only [h1,if_true,Int.ediv_one]
 split <;> omega
theorem Bw {v:Value} {o:Option Int} {Q:Option Int→Shared→Prop} (p:IsPart v o) (h:Q o s):wpAny (model prog w) A (Builtin.Slice.slicePartIndex v) Q E s:=by
 cases p with
 | none=>exact slicePart_none h
 | int i t=>exact slicePart_int h
theorem yI {sl:Addr} {vl vu:Value} {lo hi:Option Int} {n:Nat} {Q:Int×Int×Nat→Shared→Prop} (hs:s.heap.IsSliceOf sl vl vu .none) (pl:IsPart vl lo) (pu:IsPart vu hi)
  (h:Q (((iM n 0 lo:Nat):Int),1,iM n n hi - iM n 0 lo) s):wpAny (model prog w) A (Builtin.Slice.sliceApplied (.ref sl) (pure (n:Int))) Q E s:=by
 obtain ⟨os,hos,hcs,hds⟩:=id hs
 unfold Builtin.Slice.sliceApplied Builtin.Slice.sliceFields
 refine wpAny_bind (wpAny_bind (wpAny_field hos hds (x:=vl) rfl (wpAny_bind (wpAny_field hos hds (x:=vu) rfl (wpAny_bind (wpAny_field hos hds (x:=.none) rfl (wpAny_pure ?_)))))))
 refine wpAny_bind (slicePart_none ?_)
 show wpAny _ _ (if ((1:Int) == 0)=true then _ else _) _ _ s
 rw [if_neg (by decide)]
 refine wpAny_bind (Bw pl (wpAny_bind (Bw pu (wpAny_bind (wpAny_pure ?_)))))
 show wpAny _ _ (match Builtin.Slice.sliceAdjust lo hi 1 (n:Int) with | (lo,hi)=>pure (lo,(1:Int),Builtin.Slice.slicePlaces lo hi 1)) _ _ s
 rw [La lo hi n]
 show wpAny _ _ (pure (((iM n 0 lo:Nat):Int),(1:Int),Builtin.Slice.slicePlaces ((iM n 0 lo:Nat):Int) ((iM n n hi:Nat):Int) 1)) _ _ s
 rw [Lb]
 exact wpAny_pure h
theorem Tn (xs:Array Value) (i k:Nat):((List.range k).filterMap fun (m:Nat)=>xs[((i:Int)+(m:Int)*1).toNat]?).toArray=((xs.toList.drop i).take k).toArray:=by
 have e:(fun (m:Nat)=>xs[((i:Int)+(m:Int)*1).toNat]?)=fun m=>xs[i+m]?:=by
  funext m
  have:((i:Int)+(m:Int)*1).toNat=i+m:=by omega
  rw [this]
 rw [e]
 have:=pick_run xs i k
 rw [List.filterMap_map] at this
 have e2:((fun x=>xs[x]?) ∘ fun x=>i+x)=fun m=>xs[i+m]?:=rfl
 rw [e2] at this
 rw [this]
theorem wC {t sl:Addr} {items:Array Value} {vl vu:Value} {lo hi:Option Int} {Q:Value→Shared→Prop} (ht:IsTup s.heap t items) (hs:s.heap.IsSliceOf sl vl vu .none) (pl:IsPart vl lo) (pu:IsPart vu hi)
  (hw:¬ (iM items.size 0 lo=0∧iM items.size items.size hi=items.size))
  (h:Q (.ref s.heap.objs.size) { s with heap:=s.heap.push { cls:=.type "tuple",data:=.seq ((items.toList.drop (iM items.size 0 lo)).take (iM items.size items.size hi - iM items.size 0 lo)).toArray } })
  (hsz:items.size≤sizeLine):wpAny (model prog w) A (getItem (.ref t) (.ref sl)) Q E s:=by
 have NZ:sizeOk (.seq ((items.toList.drop (iM items.size 0 lo)).take (iM items.size items.size hi - iM items.size 0 lo)).toArray):=by
  show ((items.toList.drop (iM items.size 0 lo)).take (iM items.size items.size hi - iM items.size 0 lo)).toArray.size≤sizeLine
  rw [List.size_toArray,List.length_take,List.length_drop,Array.length_toList]
  omega
 have hj:iM items.size items.size hi≤items.size:=Z4 _ _ (Nat.le_refl _) hi
 obtain ⟨os,hos,hcs,hds⟩:=id hs
 have hTs:s.TypeIs (.ref sl) "slice":=⟨os,hos,hcs⟩
 unfold getItem
 try with_reducible refine wpAny_holding ?_
 first | refine wpAny_bind (wpAny_pure ?_) | skip
 refine wpAny_bind (wpAny_sequenceKey ht.typeIs (by decide) ?_)
 refine wpAny_bind (wpAny_callSpecial?_slot (name:=Str.ofString "__getitem__") ht.typeIs PyProof.Rows.slot_tuple_getitem
  (wpAny_call_entry PyProof.Rows.slot_tuple_getitem ht.typeIs entry_tuple_getitem ?_ (args_tuple_getitem _ _)))
 show wpAny _ _ (Builtin.Tuple.tupleItemsOf (.ref t) >>= _) _ _ s
 refine wpAny_bind (tupleItemsOf_ ht ?_)
 refine wpAny_bind (wpAny_typeOf hTs ?_)
 rw [if_pos (by decide)]
 refine wpAny_bind (yI hs pl pu ?_)
 have hno:¬ ((((iM items.size 0 lo:Nat):Int) == 0 && (1:Int) == 1 && (iM items.size items.size hi - iM items.size 0 lo) == items.size)=true):=by
  intro q
  rw [Bool.and_eq_true,Bool.and_eq_true] at q
  have q1:((iM items.size 0 lo:Nat):Int)=0:=eq_of_beq q.1.1
  have q2:iM items.size items.size hi - iM items.size 0 lo=items.size:=eq_of_beq q.2
  exact hw ⟨by omega,by omega⟩
 show wpAny _ _ (if (((iM items.size 0 lo:Nat):Int) == 0 && (1:Int) == 1 && (iM items.size items.size hi - iM items.size 0 lo) == items.size)=true then _ else _) _ _ s
 rw [if_neg hno,Tn]
 first
  | exact wpAny_bind (m:=Builtin.Tuple.tupleExact _) (wpAny_newObj_type (wpAny_pure ⟨_,rfl,wpAny_pure h⟩) NZ)
  | exact wpAny_bind (m:=Builtin.Tuple.tupleExact _) (wpAny_newObj_type (wpAny_bind (wpAny_pure (wpAny_pure ⟨_,rfl,wpAny_pure h⟩))) NZ)
  | exact wpAny_bind (wpAny_bind (m:=Builtin.Tuple.tupleExact _) (wpAny_newObj_type (wpAny_pure (wpAny_pure ⟨_,rfl,wpAny_pure h⟩)) NZ))
  | exact wpAny_bind (wpAny_bind (m:=Builtin.Tuple.tupleExact _) (wpAny_newObj_type (wpAny_pure ⟨_,rfl,wpAny_pure h⟩) NZ))
end
end HT
namespace L2
open PySem PySem.Spec PyProof.Rows
abbrev TO:=St→Hp→(Option Int→Hp→Prop)→Prop
def PO (X:Cx) (e:Option Expr) (t:TO):Prop :=
 ∀ (pins:List (Addr×Obj)) (s:Shared) (σ:St) (H:Hp) (Q:Option Int→Hp→Prop),Inv X pins σ H s→t σ H Q →
  wpAny (model X.prog X.w) X.A (evalPart e X.env) (fun u s'=>∃ o H',Inv X pins σ H' s'∧IsPart u o∧Q o H') X.xe s
def G4:TO:=fun _ H Q=>Q none H
def Tp (t:TE):TO:=fun σ H Q=>t σ H fun x H1=>∃ i,x=.int i∧Q (some i) H1
theorem intsAre_of {ns:List Int}:∀ {us:List Value},Vals (ns.map V.int) us→IntsAre us ns:=by
 induction ns with
 | nil=>intro us r;rw [List.map_nil] at r;cases r;exact .nil
 | cons n ns ih =>
  intro us r
  rw [List.map_cons] at r
  cases r with
  | cons r1 r2 =>
   obtain ⟨t,e⟩:=r1
   subst e
   exact .cons n t (ih r2)
section
variable {X:Cx} {e:Expr} {te:TE} {lo hi:Option Expr} {tl th:TO} {pos p2:Pos}
theorem Xi:PO X none G4:=by
 intro pins s σ H Q I h
 rw [evalPart_none]
 exact wpAny_pure ⟨none,H,I,.none,h⟩
theorem Xj (h:PE X e te):PO X (some e) (Tp te):=by
 intro pins s σ H Q I hw
 rw [evalPart_some]
 refine thn (h pins s σ H _ I hw) fun u s1 ⟨x,H1,I1,r1,q1⟩=>?_
 obtain ⟨i,rfl,q⟩:=q1
 obtain ⟨t,rfl⟩:=r1
 exact ⟨some i,H1,I1,.int i t,q⟩
def SlR (X:Cx) (r:V→Option Int→Option Int→Hp→VK→Prop):Prop :=
 ∀ (pins:List (Addr×Obj)) (s:Shared) (σ:St) (H:Hp) (x:V) (v vl vu:Value) (lo hi:Option Int) (sl:Addr) (Q:VK),Inv X pins σ H s→RelV x v→s.heap.IsSliceOf sl vl vu .none→IsPart vl lo→IsPart vu hi→r x lo hi H Q →
  ∃ T id,typeLookup (.type T) "__getitem__" = pure (some (.builtin id))∧s.TypeIs v T∧wpAny (model X.prog X.w) X.A (getItem v (.ref sl)) (EP X pins σ Q) X.xe s
def tSl (r:V→Option Int→Option Int→Hp→VK→Prop) (te:TE) (tl th:TO):TE:=fun σ H Q=>te σ H fun x H1=>tl σ H1 fun l H2=>th σ H2 fun u H3=>r x l u H3 Q
theorem Tq {r:V→Option Int→Option Int→Hp→VK→Prop} (hr:SlR X r) (he:PE X e te) (hl:PO X lo tl) (hu:PO X hi th):PE X (.Subscript e (.Slice lo hi none p2) pos) (tSl r te tl th):=by
 intro pins s σ H Q I h
 refine Subscript_ (thn (he pins s σ H _ I h) fun v s1 ⟨x,H1,I1,r1,q1⟩=>?_)
 refine wpAny_Slice (thn (hl pins s1 σ H1 _ I1 q1) fun vl s2 ⟨l,H2,I2,pl,q2⟩=>thn (hu pins s2 σ H2 _ I2 q2) fun vu s3 ⟨u,H3,I3,pu,q3⟩=>?_)
 rw [evalPart_none]
 refine wpAny_pure ?_
 have I4:Inv X pins σ H3 { s3 with heap:=s3.heap.push { cls:=.type "slice",data:=.fields #[vl,vu,.none] } }:=I3.kept (t':=s3.toks) fun b ob q=>Heap.get?_push_of_some _ q
 obtain ⟨T,id,hT,ht,hg⟩:=hr pins { s3 with heap:=s3.heap.push { cls:=.type "slice",data:=.fields #[vl,vu,.none] } } σ H3 x v vl vu l u s3.heap.objs.size Q I4 r1 (Heap.IsSliceOf.new ..) pl pu q3
 show wpAny (model X.prog X.w) X.A (subscriptTail e (.Slice lo hi none p2) v (.ref s3.heap.objs.size)) (EP X pins σ Q) X.xe { s3 with heap:=s3.heap.push { cls:=.type "slice",data:=.fields #[vl,vu,.none] } }
 exact tail_any (ops:=[.ref s3.heap.objs.size,v]) ht hT hg (by with_unfolding_all rfl)
def oW (xs:List V) (lo hi:Option Int):List V:=(xs.drop (HT.iM xs.length 0 lo)).take (HT.iM xs.length xs.length hi - HT.iM xs.length 0 lo)
theorem zV (xs:List V) (lo hi:Option Int):(oW xs lo hi).length≤xs.length:=by
 unfold oW
 rw [List.length_take,List.length_drop]
 omega
def abu (K:PySem.W.Frag):V→Option Int→Option Int→Hp→VK→Prop:=fun x lo hi H Q=>∃ a xs,x=.ref a∧SqT K H a xs ∧
 ¬ (HT.iM xs.length 0 lo=0∧HT.iM xs.length xs.length hi=xs.length)∧∀ p,H p=none→Q (.ref p) (upd H p (.tup (oW xs lo hi)))
theorem Z5:SlR X (abu X.K):=by
 intro pins s σ H x v vl vu lo hi sl Q I rx hs pl pu h
 obtain ⟨a,xs,rfl,hx,hw,q⟩:=h
 cases rx
 obtain ⟨its,r,ht,hz⟩:=I.tuple hx
 have hlen:its.toArray.size=xs.length:=by rw [List.size_toArray];exact r.length.symm
 refine ⟨"tuple",_,PyProof.Rows.slot_tuple_getitem.lookup,ht.typeIs,?_⟩
 refine HT.wC ht hs pl pu (by rw [hlen];exact hw) ?_ (by rw [hlen];exact hz)
 rw [hlen]
 refine ⟨.ref s.heap.objs.size,_,I.laid (t':=s.toks) (o:=.tup (oW xs lo hi)) (fun b ob q=>Heap.get?_push_of_some _ q) (Nat.le_refl _) ?_,rfl,q _ (I.hok.fresh (Nat.le_refl _))⟩
 exact ⟨Nat.le_trans (zV xs lo hi) hz,_,(r.drop (HT.iM xs.length 0 lo)).take (HT.iM xs.length xs.length hi - HT.iM xs.length 0 lo),IsTup.new _ _⟩
end
end L2
namespace L2
open PySem PySem.Spec PyProof.Rows
def ixN (n:Nat) (i:Int):Option Nat:=if 0≤i then (if i<n then some i.toNat else none) else if -(n:Int)≤i then some (i+n).toNat else none
def atI {α:Type} (xs:List α) (i:Int):Option α:=(ixN xs.length i).bind fun j=>xs[j]?
theorem ixN_seq {n:Nat} {i:Int} {j:Nat} (h:ixN n i=some j):seqIndex? i n=some j∧j<n∧-(n:Int)≤i∧i<n:=by
 unfold ixN at h
 by_cases h0:0≤i
 ·rw [if_pos h0] at h
  by_cases h1:i<n
  ·rw [if_pos h1] at h
   have e:i.toNat=j:=Option.some.inj h
   exact ⟨by rw [seqIndex_of h0 h1,e],by omega,by omega,h1⟩
  ·rw [if_neg h1] at h;cases h
 ·rw [if_neg h0] at h
  by_cases h1:-(n:Int)≤i
  ·rw [if_pos h1] at h
   have e:(i+n).toNat=j:=Option.some.inj h
   exact ⟨by rw [seqIndex_neg (by omega) h1,e],by omega,h1,by omega⟩
  ·rw [if_neg h1] at h;cases h
theorem atI_get {α:Type} {xs:List α} {i:Int} {v:α} (h:atI xs i=some v):∃ j,seqIndex? i xs.length=some j∧xs[j]? = some v∧j<xs.length∧-(xs.length:Int)≤i∧i<xs.length:=by
 unfold atI at h
 cases e:ixN xs.length i with
 | none=>rw [e] at h;cases h
 | some j =>
  rw [e] at h
  obtain ⟨h1,h2,h3,h4⟩:=ixN_seq e
  exact ⟨j,h1,h,h2,h3,h4⟩
theorem atI_nat {α:Type} {xs:List α} {j:Nat} {v:α} (h:xs[j]? = some v):atI xs (j:Int)=some v:=by
 have hj:j<xs.length:=(List.getElem?_eq_some_iff.mp h).1
 have e:ixN xs.length (j:Int)=some j:=by
  unfold ixN
  rw [if_pos (by omega),if_pos (by omega)];simp
 unfold atI;rw [e];exact h
def PlainIx (b:Expr):Prop:=∀ o i,subscripted b false o i=operate [o,i] (getItem o i)
def IxR (X:Cx) (r:R2):Prop :=
 ∀ (value slice:Expr) (pins:List (Addr×Obj)) (s:Shared) (σ:St) (H:Hp) (x y:V) (v u:Value) (Q:VK),Inv X pins σ H s→RelV x v→RelV y u→r x y H Q →
  subscripted slice false v u=operate [v,u] (getItem v u)→wpAny (model X.prog X.w) X.A (subscriptTail value slice v u) (EP X pins σ Q) X.xe s
def MtR (X:Cx) (id:String) (r:V→List V→Hp→VK→Prop):Prop :=
 ∀ (pins:List (Addr×Obj)) (s:Shared) (σ:St) (H:Hp) (x:V) (xs:List V) (v:Value) (us:List Value) (Q:VK),Inv X pins σ H s→RelV x v→Vals xs us→r x xs H Q →
  wpAny (model X.prog X.w) X.A (call (.builtin id) (v::us)) (EP X pins σ Q) X.xe s
section
variable {X:Cx} {a b:Expr} {ta tb:TE} {pos:Pos}
theorem pe_ix {r:R2} (hr:IxR X r) (ha:PE X a ta) (hb:PE X b tb) (hs:PlainIx b):PE X (.Subscript a b pos) (tOp r ta tb):=by
 intro pins s σ H Q I h
 exact Subscript_ (binT ha hb I h fun v u s2 x y H2 I2 rx ry q=>hr a b pins s2 σ H2 x y v u Q I2 rx ry q (hs _ _))
def rIxL (K:PySem.W.Frag):R2:=fun x y H Q=>∃ p xs i v,x=.ref p∧y=.int i∧SqL K H p xs∧atI xs i=some v∧Q v H
def ac5 (K:PySem.W.Frag):R2:=fun x y H Q=>∃ p xs i v,x=.ref p∧y=.int i∧SqT K H p xs∧atI xs i=some v∧Q v H
theorem ix_list:IxR X (rIxL X.K):=by
 intro value slice pins s σ H x y v u Q I rx ry h hs
 obtain ⟨p,xs,i,z,rfl,rfl,hq,he,q⟩:=h
 cases rx
 obtain ⟨t,rfl⟩:=ry
 obtain ⟨its,r,pl,hz⟩:=I.list hq
 obtain ⟨j,h1,h2,h3,h4,h5⟩:=atI_get he
 obtain ⟨w,ew,rw'⟩:=r.get h2
 have hl:=r.length
 have hn:=line63
 have fin:EP X pins σ Q w s:=⟨z,H,I,rw',q⟩
 by_cases h0:0≤i
 ·have hj:i.toNat=j:=by
   rw [seqIndex_of h0 h5] at h1
   exact Option.some.inj h1
  exact item_listR pl.isList h0 (by omega) (by rw [hj];simpa using ew) fin hs
 ·have hj:(i+(its.toArray.size:Int)).toNat=j:=by
   rw [seqIndex_neg (by omega) h4] at h1
   rw [List.size_toArray,←hl]
   exact Option.some.inj h1
  exact subscriptTail_builtinR (x:=w) pl.isList.typeIs slot_list_getitem.lookup
   (wpAny_getItem_list_neg (Q:=fun r s'=>r=w∧EP X pins σ Q r s') pl.isList (by omega) (by rw [List.size_toArray] <;> omega) (by omega) (by rw [hj];simpa using ew) ⟨rfl,fin⟩) hs
theorem Z6:IxR X (ac5 X.K):=by
 intro value slice pins s σ H x y v u Q I rx ry h hs
 obtain ⟨p,xs,i,z,rfl,rfl,hq,he,q⟩:=h
 cases rx
 obtain ⟨t,rfl⟩:=ry
 obtain ⟨its,r,pl,hz⟩:=I.tuple hq
 obtain ⟨j,h1,h2,h3,h4,h5⟩:=atI_get he
 obtain ⟨w,ew,rw'⟩:=r.get h2
 have hl:=r.length
 have hn:=line63
 have fin:EP X pins σ Q w s:=⟨z,H,I,rw',q⟩
 exact subscriptTail_builtinR (x:=w) pl.typeIs slot_tuple_getitem.lookup
  (getItem_tuple (j:=j) (Q:=fun r s'=>r=w∧EP X pins σ Q r s') pl (by omega) (by omega) (by rw [List.size_toArray,←hl];exact h1) (by simpa using ew) ⟨rfl,fin⟩) hs
theorem Ld (its:List Value) (n j:Nat) (u:Value):Obj.mapSeq (·.setIfInBounds j u) { cls:=.type "list",data:=.seq its.toArray n }={ cls:=.type "list",data:=.seq (its.set j u).toArray n }:=by
 simp [Obj.mapSeq]
theorem Inv.lst {pins:List (Addr×Obj)} {σ:St} {H:Hp} {s:Shared} {p:Addr} {xs:List V} (I:Inv X pins σ H s) (h:H p=some (.lst xs)) :
  ∃ (its:List Value) (n:Nat),Vals xs its∧s.heap.get? p=some { cls:=.type "list",data:=.seq its.toArray n }∧xs.length≤sizeLine:=by
 obtain ⟨z,its,n,r,e⟩:=I.hok p _ h
 exact ⟨its,n,r,e,z⟩
theorem Inv.Z7 {pins:List (Addr×Obj)} {σ:St} {H:Hp} {s:Shared} {p:Addr} {xs ys:List V} {its its':List Value} {n n':Nat} {f:Obj→Obj} (I:Inv X pins σ H s) (h:H p=some (.lst xs))
  (ho:s.heap.get? p=some { cls:=.type "list",data:=.seq its.toArray n }) (hf:f { cls:=.type "list",data:=.seq its.toArray n }={ cls:=.type "list",data:=.seq its'.toArray n' }) (r:Vals ys its') (hz:ys.length≤sizeLine) (t:Nat) :
  Inv X pins σ (upd H p (.lst ys)) { s with heap:=s.heap.update p f,toks:=t }:=by
 have e:(s.heap.update p f).get? p=some { cls:=.type "list",data:=.seq its'.toArray n' }:=by
  rw [Heap.get?_update_self f ho (by rw [hf] <;> rfl),hf]
 refine I.write (x:=p) (e:=p) (by rw [h];trivial) (.inl rfl) (fun b u hb q=>(Heap.get?_update_other _ _ (Ne.symm hb)).trans q) ⟨_,e⟩ ?_
 exact ⟨hz,its',n',r,e⟩
def YK:V→V→V→Hp→(Hp→Prop)→Prop:=fun o i v H Q=>∃ p xs k j,o=.ref p∧i=.int k∧H p=some (.lst xs)∧ixN xs.length k=some j∧Q (upd H p (.lst (xs.set j v)))
theorem set_list:S8 X YK:=by
 intro pins s σ H o i v ov iv u Q I ro ri rv h
 obtain ⟨p,xs,k,j,rfl,rfl,hp,hj,q⟩:=h
 cases ro
 obtain ⟨t,rfl⟩:=ri
 obtain ⟨its,n,r,ho,hz⟩:=I.lst hp
 obtain ⟨h1,h2,h3,h4⟩:=ixN_seq hj
 have hl:=r.length
 have hn:=line63
 have I':Inv X pins σ (upd H p (.lst (xs.set j v))) { s with heap:=s.heap.update p (Obj.mapSeq (·.setIfInBounds j u)) } :=
  I.Z7 hp ho (Ld its n j u) (r.set rv j) (by rw [List.length_set];exact hz) s.toks
 by_cases h0:0≤k
 ·have hk:k.toNat=j:=by
   rw [seqIndex_of h0 h4] at h1
   exact Option.some.inj h1
  exact PySem.W.ki_setAt ho h0 (by omega) (by rw [List.size_toArray,←hl];exact h4) (by rw [hk];exact ⟨_,I',q⟩)
 ·have hk:(k+(its.toArray.size:Int)).toNat=j:=by
   rw [seqIndex_neg (by omega) h3] at h1
   rw [List.size_toArray,←hl]
   exact Option.some.inj h1
  exact PySem.W.ki_setBack ho (by omega) (by rw [List.size_toArray,←hl];exact h3) (by omega) (by rw [hk];exact ⟨_,I',q⟩)
theorem G5 (lo hi:Option Int) (n:Nat):(sliceBounds lo hi none n).1=((HT.iM n 0 lo:Nat):Int)∧(sliceBounds lo hi none n).2.1=((HT.iM n n hi:Nat):Int)∧(sliceBounds lo hi none n).2.2=1:=by
 refine ⟨?_,?_,rfl⟩
 ·cases lo with
  | none=>simp [sliceBounds,HT.iM]
  | some i =>
   simp only [sliceBounds,HT.iM,Option.getD_none,show (1:Int) > 0 by decide,if_true]
   by_cases h:i<0
   ·simp only [h,if_true] <;> omega
   ·simp only [h,if_false] <;> omega
 ·cases hi with
  | none=>simp [sliceBounds,HT.iM]
  | some i =>
   simp only [sliceBounds,HT.iM,Option.getD_none,show (1:Int) > 0 by decide,if_true]
   by_cases h:i<0
   ·simp only [h,if_true] <;> omega
   ·simp only [h,if_false] <;> omega
theorem El (its:List Value) (lo hi:Option Int):slicePick its.toArray lo hi none=((its.drop (HT.iM its.length 0 lo)).take (HT.iM its.length its.length hi - HT.iM its.length 0 lo)).toArray:=by
 obtain ⟨h1,h2,h3⟩:=G5 lo hi its.toArray.size
 unfold slicePick
 rw [h1,h2,h3]
 simp only [sliceRange_one,pick_run,List.size_toArray] <;> rfl
def Xk (K:PySem.W.Frag):V→Option Int→Option Int→Hp→VK→Prop:=fun x lo hi H Q=>∃ a xs,x=.ref a∧SqL K H a xs∧∀ p,H p=none→Q (.ref p) (upd H p (.lst (oW xs lo hi)))
theorem N6:SlR X (Xk X.K):=by
 intro pins s σ H x v vl vu lo hi sl Q I rx hs pl pu h
 obtain ⟨a,xs,rfl,hx,q⟩:=h
 cases rx
 obtain ⟨its,r,ht,hz⟩:=I.list hx
 have hlen:=r.length
 refine ⟨"list",_,slot_list_getitem.lookup,ht.isList.typeIs,?_⟩
 refine wpAny_getItem_list_slice ht.isList hs pl pu .none (by simp) ?_ (by rw [List.size_toArray] <;> omega)
 rw [El,←hlen]
 refine ⟨.ref s.heap.objs.size,_,I.laid (t':=s.toks) (o:=.lst (oW xs lo hi)) (fun b ob q=>Heap.get?_push_of_some _ q) (Nat.le_refl _) ?_,rfl,q _ (I.hok.fresh (Nat.le_refl _))⟩
 exact ⟨Nat.le_trans (zV xs lo hi) hz,_,0,(r.drop (HT.iM xs.length 0 lo)).take (HT.iM xs.length xs.length hi - HT.iM xs.length 0 lo),Heap.get?_push_size _ rfl⟩
def rG:V→Bool
 | .non=>true
 | .bl _=>true
 | .int _=>true
 | .str _=>true
 | _=>false
def K3:V→V→Bool
 | .non,.non=>true
 | .bl a,.bl b=>a == b
 | .bl a,.int b=>(if a then 1 else 0) == b
 | .int a,.bl b=>a == (if b then 1 else 0)
 | .int a,.int b=>a == b
 | .str a,.str b=>a == b
 | _,_=>false
theorem Z8 {A:Around} {s:Shared} {y x:V} {u v:Value} (ry:RelV y u) (rx:RelV x v) (fy:rG y=true) (fx:rG x=true):SeqAt.EqAt A s u v (K3 y x):=by
 cases y with
 | non =>
  cases ry
  cases x with
  | non=>cases rx;exact SeqAt.EqAt.same _
  | bl b=>cases rx;exact SeqAt.EqAt.none_bool b
  | int b=>obtain ⟨t,rfl⟩:=rx;exact SeqAt.EqAt.none_int b t
  | str b=>obtain ⟨t,rfl⟩:=rx;exact SeqAt.EqAt.none_str b t
  | _=>exact absurd (show false=true from fx) Bool.false_ne_true
 | bl a =>
  cases ry
  cases x with
  | non=>cases rx;exact SeqAt.EqAt.bool_none a
  | bl b=>cases rx;exact SeqAt.EqAt.bool_bool a b
  | int b=>obtain ⟨t,rfl⟩:=rx;exact SeqAt.EqAt.bool_int a b t
  | str b=>obtain ⟨t,rfl⟩:=rx;exact SeqAt.EqAt.bool_str a b t
  | _=>exact absurd (show false=true from fx) Bool.false_ne_true
 | int a =>
  obtain ⟨t',rfl⟩:=ry
  cases x with
  | non=>cases rx;exact SeqAt.EqAt.int_none a t'
  | bl b=>cases rx;exact SeqAt.EqAt.int_bool a t' b
  | int b=>obtain ⟨t,rfl⟩:=rx;exact SeqAt.EqAt.int_int a t' b t
  | str b=>obtain ⟨t,rfl⟩:=rx;exact SeqAt.EqAt.int_str a t' b t
  | _=>exact absurd (show false=true from fx) Bool.false_ne_true
 | str a =>
  obtain ⟨t',rfl⟩:=ry
  cases x with
  | non=>cases rx;exact SeqAt.EqAt.str_none a t'
  | bl b=>cases rx;exact SeqAt.EqAt.str_bool a t' b
  | int b=>obtain ⟨t,rfl⟩:=rx;exact SeqAt.EqAt.str_int a t' b t
  | str b=>obtain ⟨t,rfl⟩:=rx;exact SeqAt.EqAt.str_str a t' b t
  | _=>exact absurd (show false=true from fx) Bool.false_ne_true
 | _=>exact absurd (show false=true from fy) Bool.false_ne_true
def Jh (x:V) (u:Value):Bool:=match u with
 | .none=>K3 .non x
 | .bool b=>K3 (.bl b) x
 | .int i _=>K3 (.int i) x
 | .str z _=>K3 (.str z) x
 | _=>false
theorem Le {x y:V} {u:Value} (r:RelV y u) (f:rG y=true):Jh x u=K3 y x:=by
 cases y with
 | non=>cases r;rfl
 | bl b=>cases r;rfl
 | int i=>obtain ⟨t,rfl⟩:=r;rfl
 | str z=>obtain ⟨t,rfl⟩:=r;rfl
 | _=>exact absurd (show false=true from f) Bool.false_ne_true
theorem wF {x:V}:∀ {xs:List V} {us:List Value},Vals xs us→xs.all rG=true→us.any (Jh x)=xs.any fun y=>K3 y x
 | _,_,.nil,_=>rfl
 | y::xs,u::us,.cons r t,f=>by
  rw [List.all_cons,Bool.and_eq_true] at f
  rw [List.any_cons,List.any_cons,Le r f.1,wF t f.2]
theorem oX {A:Around} {s:Shared} {x:V} {v:Value} (rx:RelV x v) (fx:rG x=true):∀ {xs:List V} {us:List Value},Vals xs us→xs.all rG=true→∀ u∈us,SeqAt.EqAt A s u v (Jh x u)
 | _,_,.nil,_=>fun u hu=>by cases hu
 | y::xs,u::us,.cons r t,f=>fun u' hu=>by
  rw [List.all_cons,Bool.and_eq_true] at f
  rcases List.mem_cons.mp hu with rfl | hu
  ·rw [Le r f.1];exact Z8 r rx f.1 fx
  ·exact oX rx fx t f.2 u' hu
def inV (x:V) (xs:List V):Bool:=xs.any fun y=>K3 y x
def rIn (K:PySem.W.Frag) (neg:Bool):R2:=fun x y H Q=>∃ p xs,y=.ref p∧(SqL K H p xs∨SqT K H p xs)∧rG x=true∧xs.all rG=true∧Q (.bl (if neg then !inV x xs else inV x xs)) H
theorem yJ:OpR X (compareOp .In) (rIn X.K false):=by
 intro pins s σ H x y v u Q I rx ry h
 obtain ⟨p,xs,rfl,hq,fx,fs,q⟩:=h
 cases ry
 rcases hq with hq | hq
 ·obtain ⟨its,r,pl,hz⟩:=I.list hq
  refine SeqAt.in_listAt (Jh x) pl.isList (fun w hw=>oX rx fx r fs w (by simpa using hw)) ⟨.bl _,H,I,rfl,?_⟩
  rw [show its.toArray.any (Jh x)=its.any (Jh x) by simp,wF r fs]
  exact q
 ·obtain ⟨its,r,pl,hz⟩:=I.tuple hq
  refine SeqAt.in_tupleAt (Jh x) pl (fun w hw=>oX rx fx r fs w (by simpa using hw)) ⟨.bl _,H,I,rfl,?_⟩
  rw [show its.toArray.any (Jh x)=its.any (Jh x) by simp,wF r fs]
  exact q
theorem wG:OpR X (compareOp .NotIn) (rIn X.K true):=by
 intro pins s σ H x y v u Q I rx ry h
 obtain ⟨p,xs,rfl,hq,fx,fs,q⟩:=h
 cases ry
 rcases hq with hq | hq
 ·obtain ⟨its,r,pl,hz⟩:=I.list hq
  refine SeqAt.notIn_listAt (Jh x) pl.isList (fun w hw=>oX rx fx r fs w (by simpa using hw)) ⟨.bl _,H,I,rfl,?_⟩
  rw [show its.toArray.any (Jh x)=its.any (Jh x) by simp,wF r fs]
  exact q
 ·obtain ⟨its,r,pl,hz⟩:=I.tuple hq
  refine SeqAt.notIn_tupleAt (Jh x) pl (fun w hw=>oX rx fx r fs w (by simpa using hw)) ⟨.bl _,H,I,rfl,?_⟩
  rw [show its.toArray.any (Jh x)=its.any (Jh x) by simp,wF r fs]
  exact q
theorem call_len_seq:CallR X (.builtin "len") (fun xs H Q=>∃ p ys,xs=[.ref p]∧(SqL X.K H p ys∨SqT X.K H p ys)∧Q (.int ys.length) H):=by
 intro pins s σ H xs us Q I r h
 obtain ⟨p,ys,rfl,hq,q⟩:=h
 obtain ⟨u,rfl,rx⟩:=vals1 r
 cases rx
 have hn:=line63
 rcases hq with hq | hq
 ·obtain ⟨its,r',pl,hz⟩:=I.list hq
  have hlen:=r'.length
  exact Calls.call_len_list pl.isList (by simp only [List.size_toArray] <;> omega) ⟨.int ys.length,H,I.tok _,⟨s.toks+1,by rw [List.size_toArray,hlen]⟩,q⟩
 ·obtain ⟨its,r',pl,hz⟩:=I.tuple hq
  have hlen:=r'.length
  exact len_tuple pl (by simp only [List.size_toArray] <;> omega) ⟨.int ys.length,H,I.tok _,⟨s.toks+1,by rw [List.size_toArray,hlen]⟩,q⟩
theorem G6:CallR X (.type "list") (fun xs H Q=>∃ p ys,xs=[.ref p]∧(SqL X.K H p ys∨SqT X.K H p ys)∧∀ l,H l=none→Q (.ref l) (upd H l (.lst ys))):=by
 intro pins s σ H xs us Q I r h
 obtain ⟨p,ys,rfl,hq,q⟩:=h
 obtain ⟨u,rfl,rx⟩:=vals1 r
 cases rx
 have fin:∀ (its:List Value),Vals ys its→ys.length≤sizeLine→∀ (h':Heap) (c':Nat),(∀ b o',s.heap.get? b=some o'→h'.get? b=some o') →
   h'.get? s.heap.objs.size=some { cls:=.type "list",dict:=none,data:=.seq its.toArray c',slots:=#[] }→EP X pins σ Q (.ref s.heap.objs.size) { s with heap:=h' }:=fun its r' hz h' c' kp e =>
  ⟨.ref s.heap.objs.size,_,I.laid (t':=s.toks) kp (Nat.le_refl _) (show ObjOk X.prog X.w _ h' _ (.lst ys) from ⟨hz,its,c',r',e⟩),rfl,q _ (I.hok.fresh (Nat.le_refl _))⟩
 rcases hq with hq | hq
 ·obtain ⟨its,r',pl,hz⟩:=I.list hq
  have hlen:=r'.length
  obtain ⟨o,ho,hc,n,hd⟩:=pl.isList
  exact call_list_seq p (.inl rfl) ho hc hd (fun h' c' kp e=>fin its r' hz h' c' kp e) (by simp only [List.size_toArray] <;> omega)
 ·obtain ⟨its,r',pl,hz⟩:=I.tuple hq
  have hlen:=r'.length
  obtain ⟨o,ho,hc,n,hd⟩:=pl
  exact call_list_seq p (.inr rfl) ho hc hd (fun h' c' kp e=>fin its r' hz h' c' kp e) (by simp only [List.size_toArray] <;> omega)
def Xl (K:PySem.W.Frag) (T:String) (x:V) (H:Hp):Prop:=match x with
 | .str _=>T = "str"
 | .int _=>T = "int"
 | .ref p=>(T = "list"∧∃ xs,SqL K H p xs)∨(T = "tuple"∧∃ o,K.lookup p=some o∧o.cls=.type "tuple"∧o.dict=none) ∨
   (T = "dict"∧((∃ kvs,H p=some (.dK kvs))∨∃ kvs,H p=some (.dT kvs)))∨(T = "set"∧∃ S n,H p=some (.set S n))
 | _=>False
theorem Tr {pins:List (Addr×Obj)} {σ:St} {H:Hp} {s:Shared} {T:String} {x:V} {v:Value} (I:Inv X pins σ H s) (r:RelV x v) (ty:Xl X.K T x H) :
  s.TypeIs v T∧∀ a,v=.ref a→∃ ob,s.heap.get? a=some ob∧ob.dict=none:=by
 cases x with
 | str z =>
  obtain ⟨t,rfl⟩:=r
  cases (show T = "str" from ty)
  exact ⟨typeIs_str s z t,fun _ e=>nomatch e⟩
 | int i =>
  obtain ⟨t,rfl⟩:=r
  cases (show T = "int" from ty)
  exact ⟨typeIs_int s i t,fun _ e=>nomatch e⟩
 | ref p =>
  cases r
  rcases ty with ⟨rfl,xs,hq⟩ | ⟨rfl,o,hk,hc,hd⟩ | ⟨rfl,hk⟩ | ⟨rfl,S,n,hk⟩
  ·obtain ⟨its,_,pl,_⟩:=I.list hq
   refine ⟨pl.isList.typeIs,fun a e=>?_⟩
   cases e
   obtain ⟨o,n,e,c,hd,_⟩:=pl
   exact ⟨o,e,hd⟩
  ·refine ⟨⟨o,I.kIn p o hk,hc⟩,fun a e=>?_⟩
   cases e
   exact ⟨o,I.kIn _ o hk,hd⟩
  ·have z:∃ o,s.heap.get? p=some o∧o.ExactDict:=by
    rcases hk with ⟨kvs,hk⟩ | ⟨kvs,hk⟩
    ·obtain ⟨_,_,_,_,o,_,_,e,ex,_⟩:=I.hok p _ hk
     exact ⟨o,e,ex⟩
    ·obtain ⟨_,_,_,_,o,_,_,e,ex,_⟩:=I.hok p _ hk
     exact ⟨o,e,ex⟩
   obtain ⟨o,e,ex⟩:=z
   refine ⟨⟨o,e,ex.1⟩,fun a e2=>?_⟩
   cases e2
   exact ⟨o,e,ex.2.1⟩
  ·obtain ⟨o,_,_,_,e,ex,_⟩:=I.hok p _ hk
   refine ⟨⟨o,e,ex.1⟩,fun a e2=>?_⟩
   cases e2
   exact ⟨o,e,ex.2.1⟩
 | _=>exact False.elim ty
def Z9 (K:PySem.W.Frag) (T:String) (r:V→List V→Hp→VK→Prop) (to:TE):TE:=fun σ H Q=>to σ H fun x H1=>Xl K T x H1∧r x [] H1 Q
def tBM (K:PySem.W.Frag) (T:String) (r:V→List V→Hp→VK→Prop) (to:TE) (t:TA):TE:=fun σ H Q=>to σ H fun x H1=>Xl K T x H1∧t σ H1 fun xs H2=>r x xs H2 Q
variable {o e:Expr} {es:List Expr} {to:TE} {t:TA} {name:Str} {apos cpos:Pos} {T id:String} {r:V→List V→Hp→VK→Prop}
theorem aac (pa:PlainAttrs T) (slot:Slot T name id) (hty:typeOf (.builtin id)=pure (.type "method_descriptor")) (hm:MtR X id r) (ho:PE X o to)
  (hbase:attributeBase o name X.env (eval o X.env)=eval o X.env:=by rfl) (hline:(apos.endLine == cpos.line)=true:=by rfl):PE X (.Call (.Attribute o name apos) [] [] cpos) (Z9 X.K T r to):=by
 intro pins s σ H Q I h
 refine wpAny_Call_method0_late hbase hline (thn (ho pins s σ H _ I h) fun v s1 ⟨x,H1,I1,r1,ty,q1⟩=>?_)
 obtain ⟨h1,h2⟩:=Tr I1 r1 ty
 exact ⟨T,id,pa,slot,hty,h1,h2,Calls.callWith_builtin rfl (PySem.evalArgs_none (hm pins s1 σ H1 x [] v [] Q I1 r1 .nil q1))⟩
theorem abv (pa:PlainAttrs T) (slot:Slot T name id) (hty:typeOf (.builtin id)=pure (.type "method_descriptor")) (hm:MtR X id r) (ho:PE X o to) (ha:PA X (e::es) t)
  (hbase:attributeBase o name X.env (eval o X.env)=eval o X.env:=by rfl)
  (hfew:((backTo cpos (starEach (e::es) X.env)).all (fun x=>!x.1) && (backToKw cpos (keywordEach [] X.env)).all (fun x=>x.1.isSome)
   && decide ((e::es).length+([]:List Keyword).length+(if ([]:List Keyword).isEmpty then 0 else 1)<30))=true:=by rfl)
  (hline:(apos.endLine == cpos.line)=true:=by rfl) (hs:starEach (e::es) X.env=(false,eval e X.env)::starEach es X.env:=by rfl) (hplain:(backTo cpos (starEach es X.env)).any (·.1)=false:=by rfl) :
  PE X (.Call (.Attribute o name apos) (e::es) [] cpos) (tBM X.K T r to t):=by
 intro pins s σ H Q I h
 refine wpAny_Call_method_late hbase hfew hline rfl (thn (ho pins s σ H _ I h) fun v s1 ⟨x,H1,I1,r1,ty,q1⟩=>?_)
 obtain ⟨h1,h2⟩:=Tr I1 r1 ty
 refine ⟨T,id,pa,slot,hty,h1,h2,?_⟩
 have hA:=ha cpos pins s1 σ H1 _ I1 q1
 rw [hs] at hA ⊢
 refine Calls.callWith_builtin (by show (false || (backTo cpos (starEach es X.env)).any (·.1))=false;rw [hplain] <;> rfl) (Calls.evalArgs_plain ?_)
 exact thn hA fun us s2 ⟨vs,H2,I2,r2,q2⟩=>hm pins s2 σ H2 x vs v us Q I2 r1 r2 q2
/- xs.append(e),list.index on a module's tuple .. are MtR facts of 06m -/
end
end L2
namespace L2
open PySem PySem.Spec PyProof.Rows
def YL (X:Cx) (id:String) (r:V→List V→Hp→VK→Prop):Prop :=
 ∀ (pins:List (Addr×Obj)) (s:Shared) (σ:St) (H:Hp) (x:V) (xs:List V) (v:Value) (us:List Value) (Q:VK),Inv X pins σ H s→RelV x v→Vals xs us→r x xs H Q →
  wpAny (model X.prog X.w) X.A (call (.builtin id) (v::us)) (EP X pins σ Q) X.xe s
theorem Vals.one:∀ {x:V} {us:List Value},Vals [x] us→∃ u,us=[u]∧RelV x u
 | _,_,.cons r .nil=>⟨_,rfl,r⟩
theorem Vals.zero:∀ {us:List Value},Vals [] us→us=[]
 | _,.nil=>rfl
theorem Vals.dropLast {xs:List V} {us:List Value} (h:Vals xs us):Vals xs.dropLast us.dropLast:=by
 induction h with
 | nil=>exact .nil
 | cons r t ih =>
  cases t with
  | nil=>exact .nil
  | cons q t'=>exact .cons r ih
theorem Vals.eraseIdx:∀ {xs:List V} {us:List Value} (i:Nat),Vals xs us→Vals (xs.eraseIdx i) (us.eraseIdx i)
 | _,_,_,.nil=>.nil
 | _,_,0,.cons _ t=>t
 | _,_,i+1,.cons r t=>.cons r (Vals.eraseIdx i t)
theorem Vals.reverse {xs:List V} {us:List Value} (h:Vals xs us):Vals xs.reverse us.reverse:=by
 induction h with
 | nil=>exact .nil
 | cons r t ih=>rw [List.reverse_cons,List.reverse_cons];exact Vals.append ih (.cons r .nil)
theorem Vals.rep {xs:List V} {us:List Value} (h:Vals xs us):∀ k:Nat,Vals (List.replicate k xs).flatten (List.replicate k us).flatten
 | 0=>.nil
 | k+1=>by
  rw [List.replicate_succ,List.replicate_succ,List.flatten_cons,List.flatten_cons]
  exact Vals.append h (Vals.rep h k)
theorem Lf {α:Type} (l:List α):l.eraseIdx (l.length - 1)=l.dropLast:=by
 induction l with
 | nil=>rfl
 | cons a r ih =>
  cases r with
  | nil=>rfl
  | cons b r =>
   have e:(a::b::r).length - 1=((b::r).length - 1)+1:=by
    have h1:(a::b::r).length=r.length+2:=rfl
    have h2:(b::r).length=r.length+1:=rfl
    omega
   rw [e,List.eraseIdx_cons_succ,ih]
   all_goals rfl
theorem yK {α:Type}:∀ (l:List α) (i:Nat),(l.eraseIdx i).length≤l.length
 | [],_=>Nat.le_refl _
 | _::_,0=>Nat.le_succ _
 | _::r,i+1=>Nat.succ_le_succ (yK r i)
theorem foldl_rep (its:List Value):∀ (k:Nat) (acc:List Value),
  List.foldl (fun x1 x2=>x1++x2) acc.toArray (List.replicate k its.toArray)=(acc++(List.replicate k its).flatten).toArray
 | 0,acc=>by simp
 | k+1,acc=>by
  have e:acc.toArray++its.toArray=(acc++its).toArray:=by simp
  have e2:(acc++its)++(List.replicate k its).flatten=acc++(List.replicate (k+1) its).flatten:=by
   rw [List.replicate_succ,List.flatten_cons,List.append_assoc]
  rw [←e2,←foldl_rep its k (acc++its),←e,List.replicate_succ,List.foldl_cons]
section
variable {X:Cx} {pins:List (Addr×Obj)} {σ:St} {H:Hp} {s:Shared} {l b:Addr} {xs ys zs:List V}
theorem Inv.Tt {its its':List Value} {n:Nat} {f:Array Value→Array Value} {t':Nat} (I:Inv X pins σ H s) (hH:H l=some (.lst xs))
  (e:s.heap.get? l=some { cls:=.type "list",data:=.seq its.toArray n }) (hf:f its.toArray=its'.toArray) (hv:Vals ys its') (hz:ys.length≤sizeLine) :
  Inv X pins σ (upd H l (.lst ys)) { s with heap:=s.heap.update l (Obj.mapSeq f),toks:=t' }:=by
 have q:=PySem.IsL.update e f
 rw [hf] at q
 refine I.write (x:=l) (e:=l) (by rw [hH];exact trivial) (.inl rfl) (fun b' u hb hu=>(Heap.get?_update_other s.heap (Obj.mapSeq f) (Ne.symm hb)).trans hu) ⟨_,q⟩ ?_
 exact ⟨hz,its',_,hv,q⟩
theorem Inv.lnew {its:List Value} {t':Nat} (I:Inv X pins σ H s) (hv:Vals ys its) (hz:ys.length≤sizeLine) :
  Inv X pins σ (upd H s.heap.objs.size (.lst ys)) { s with heap:=s.heap.push { cls:=.type "list",data:=.seq its.toArray },toks:=t' } :=
 I.laid (fun _ _ q=>Heap.get?_push_of_some _ q) (Nat.le_refl _) ⟨hz,its,0,hv,Heap.get?_push_size _ rfl⟩
theorem Inv.fresh (I:Inv X pins σ H s):H s.heap.objs.size=none:=I.hok.fresh (Nat.le_refl _)
theorem Inv.lstM (I:Inv X pins σ H s) (hH:H l=some (.lst xs)):xs.length≤sizeLine∧∃ (its:List Value) (n:Nat),Vals xs its∧xs.length=its.length∧s.heap.get? l=some { cls:=.type "list",data:=.seq its.toArray n }:=by
 obtain ⟨z,its,n,r,e⟩:=I.hok l _ hH
 exact ⟨z,its,n,r,r.length,e⟩
theorem Tv {n:Nat} (h:n≤sizeLine):Builtin.List.listTooLong n=false:=by
 unfold Builtin.List.listTooLong
 exact decide_eq_false (by omega)
end
section
variable {X:Cx}
def Oa:V→List V→Hp→VK→Prop:=fun x vs H Q=>∃ l xs y,x=.ref l∧vs=[y]∧H l=some (.lst xs)∧xs.length<sizeLine∧Q .non (upd H l (.lst (xs++[y])))
theorem bY:YL X "list.append" Oa:=by
 intro pins s σ H x vs v us Q I rx rv h
 obtain ⟨l,xs,y,rfl,rfl,hH,hz,q⟩:=h
 cases rx
 obtain ⟨u,rfl,ru⟩:=rv.one
 obtain ⟨z,its,n,r,hl,e⟩:=I.lstM hH
 refine call_meets F.slot_list_append ⟨_,e,rfl⟩ F.entry_list_append (F.args_list_append_2 _ _) (PySem.list_append l its.toArray n u (by rw [List.size_toArray];omega)) ⟨e,?_⟩
 refine ⟨.non,_,I.Tt (its':=its++[u]) hH e (by simp) (r.append (.cons ru .nil)) ?_,rfl,q⟩
 rw [List.length_append,List.length_singleton]
 omega
def abw:V→List V→Hp→VK→Prop:=fun x vs H Q=>∃ l xs y,x=.ref l∧vs=[]∧H l=some (.lst xs)∧xs[xs.length - 1]? = some y∧Q y (upd H l (.lst xs.dropLast))
theorem Tw:YL X "list.pop" abw:=by
 intro pins s σ H x vs v us Q I rx rv h
 obtain ⟨l,xs,y,rfl,rfl,hH,hy,q⟩:=h
 cases rx
 have hus:=rv.zero
 subst hus
 obtain ⟨z,its,n,r,hl,e⟩:=I.lstM hH
 obtain ⟨u,hu,ru⟩:=r.get hy
 have hy':its.toArray[its.toArray.size - 1]? = some u:=by
  show its.toArray[its.length - 1]? = some u
  rw [←Array.getElem?_toList,←hl]
  exact hu
 refine call_meets F.slot_list_pop ⟨_,e,rfl⟩ F.entry_list_pop (F.args_list_pop_1 _) (MeetsSeq.list_pop_last l its.toArray n u hy' (by rw [List.size_toArray];omega)) ⟨e,?_⟩
 refine ⟨y,_,I.Tt (its':=its.dropLast) hH e ?_ r.dropLast ?_,ru,q⟩
 ·show its.toArray.eraseIdxIfInBounds (its.toArray.size - 1)=its.dropLast.toArray
  rw [List.size_toArray,List.eraseIdxIfInBounds_toArray,Lf]
 ·rw [List.length_dropLast]
  omega
def Tz:V→List V→Hp→VK→Prop:=fun x vs H Q=>∃ l xs i k y,x=.ref l∧vs=[.int i]∧H l=some (.lst xs)∧-(2 ^ 63)≤i∧i<2 ^ 63∧seqIndex? i xs.length=some k∧xs[k]? = some y∧Q y (upd H l (.lst (xs.eraseIdx k)))
theorem TF:YL X "list.pop" Tz:=by
 intro pins s σ H x vs v us Q I rx rv h
 obtain ⟨l,xs,i,k,y,rfl,rfl,hH,h1,h2,hk,hy,q⟩:=h
 cases rx
 obtain ⟨u,rfl,ru⟩:=rv.one
 obtain ⟨t,rfl⟩:=ru
 obtain ⟨z,its,n,r,hl,e⟩:=I.lstM hH
 obtain ⟨w,hw,rw'⟩:=r.get hy
 refine call_meets F.slot_list_pop ⟨_,e,rfl⟩ F.entry_list_pop (F.args_list_pop_2 _ _)
  (MeetsSeq.list_pop_at l its.toArray n i t k w (fitsIndex_both h1 h2) (by rw [List.size_toArray,←hl];exact hk) (by rw [←Array.getElem?_toList];exact hw) (by rw [List.size_toArray];omega)) ⟨e,?_⟩
 refine ⟨y,_,I.Tt (its':=its.eraseIdx k) hH e ?_ (r.eraseIdx k) ?_,rw',q⟩
 ·show its.toArray.eraseIdxIfInBounds k=(its.eraseIdx k).toArray
  rw [List.eraseIdxIfInBounds_toArray]
 ·have:=yK xs k
  omega
def Ji:V→List V→Hp→VK→Prop:=fun x vs H Q=>∃ l xs,x=.ref l∧vs=[]∧H l=some (.lst xs)∧Q .non (upd H l (.lst xs.reverse))
theorem Lg:YL X "list.reverse" Ji:=by
 intro pins s σ H x vs v us Q I rx rv h
 obtain ⟨l,xs,rfl,rfl,hH,q⟩:=h
 cases rx
 have hus:=rv.zero
 subst hus
 obtain ⟨z,its,n,r,hl,e⟩:=I.lstM hH
 refine call_meets F.slot_list_reverse ⟨_,e,rfl⟩ F.entry_list_reverse (F.args_list_reverse_1 _) (AutoSeq1.list_reverse_list_0 l its.toArray n (by rw [List.size_toArray];omega)) ⟨e,?_⟩
 refine ⟨.non,_,I.Tt (its':=its.reverse) hH e (by simp) r.reverse ?_,rfl,q⟩
 rw [List.length_reverse]
 omega
def rCat:R2:=fun x y H Q=>∃ l b xs zs,x=.ref l∧y=.ref b∧H l=some (.lst xs)∧H b=some (.lst zs)∧xs.length+zs.length≤sizeLine∧∀ p,H p=none→Q (.ref p) (upd H p (.lst (xs++zs)))
theorem op_cat:OpR X (binaryOp .Add) rCat:=by
 intro pins s σ H x y v u Q I rx ry h
 obtain ⟨l,b,xs,zs,rfl,rfl,hH,hB,hz,q⟩:=h
 cases rx
 cases ry
 obtain ⟨z,its,n,r,hl,e⟩:=I.lstM hH
 obtain ⟨z2,its2,n2,r2,hl2,e2⟩:=I.lstM hB
 refine PySem.P.add_list e e2 ?_ (by rw [List.size_toArray,List.size_toArray];omega)
 have ea:its.toArray++its2.toArray=(its++its2).toArray:=by simp
 rw [ea]
 exact ⟨.ref _,_,I.lnew (t':=s.toks) (r.append r2) (by rw [List.length_append];omega),rfl,q _ I.fresh⟩
def abx:R2:=fun x y H Q=>∃ l k xs,x=.ref l∧y=.int k∧H l=some (.lst xs)∧-(2 ^ 63)≤k∧k<2 ^ 63∧xs.length*k.toNat≤sizeLine ∧
 ∀ p,H p=none→Q (.ref p) (upd H p (.lst (List.replicate k.toNat xs).flatten))
theorem len_rep {α:Type} (xs:List α) (k:Nat):(List.replicate k xs).flatten.length=k*xs.length:=by
 induction k with
 | zero=>simp
 | succ k ih=>rw [List.replicate_succ,List.flatten_cons,List.length_append,ih,Nat.succ_mul,Nat.add_comm]
theorem G7:OpR X (binaryOp .Mult) abx:=by
 intro pins s σ H x y v u Q I rx ry h
 obtain ⟨l,k,xs,rfl,rfl,hH,h1,h2,hz,q⟩:=h
 cases rx
 obtain ⟨t,rfl⟩:=ry
 obtain ⟨z,its,n,r,hl,e⟩:=I.lstM hH
 have hlen:its.toArray.size*k.toNat≤sizeLine:=by rw [List.size_toArray,←hl];exact hz
 have hcap:¬ its.toArray.size*k.toNat > (2 ^ 63 - 1) / 8:=by
  have:(sizeLine:Nat)≤(2 ^ 63 - 1) / 8:=by decide
  omega
 have hfit:¬ (!Builtin.List.listFitsIndex k)=true:=by
  rw [fitsIndex_both h1 h2]
  exact Bool.false_ne_true
 have aby:¬ Builtin.List.listTooLong (its.toArray.size*k.toNat)=true:=by
  rw [Tv hlen]
  exact Bool.false_ne_true
 have hnew:List.foldl (fun x1 x2=>x1++x2) #[] (List.replicate (if its.toArray.isEmpty=true then 0 else k.toNat) its.toArray)=(List.replicate k.toNat its).flatten.toArray:=by
  have f0:∀ m:Nat,List.foldl (fun x1 x2=>x1++x2) #[] (List.replicate m its.toArray)=(List.replicate m its).flatten.toArray:=fun m=>by
   have:=foldl_rep its m []
   rw [List.nil_append] at this
   exact this
  rw [f0]
  cases its with
  | nil=>simp
  | cons a r'=>rw [if_neg (by simp)]
 refine wpAny_binaryOp_repeat_ref (T:="list") (U:="int") (by decide) ⟨_,e,rfl⟩ (fun s'=>typeIs_int s' k t) noFill_list_mul F.fills_int_mul F.slot_int_rmul repeat_list F.slot_int_index.lookup
  (call_meets F.slot_int_rmul (typeIs_int s k t) F.entry_int_rmul (F.args_int_rmul_2 _ _) (int___rmul___int_list k t l its.toArray n)
   ⟨e,rfl,⟨_,e,rfl⟩,call_meets F.slot_list_mul ⟨_,e,rfl⟩ F.entry_list_mul (F.args_list_mul_2 _ _) (AutoListH.list___mul___list_int_3 l its.toArray n k t hfit hcap aby) ⟨e,?_⟩⟩)
 rw [hnew]
 exact ⟨.ref _,_,I.lnew (t':=s.toks) (r.rep k.toNat) (by rw [len_rep,Nat.mul_comm];exact hz),rfl,q _ I.fresh⟩
end
section
variable {prog:Program} {w:World} {A:Around} {E:Value→Shared→Prop} {s:Shared}
end
section
variable {X:Cx}
end
end L2
namespace L2
open PySem PySem.Spec PyProof.Rows
section
variable {κ:Type} [DecidableEq κ]
def valV (kvs:List (κ×V)) (k:κ):Option V:=(kvs.find? fun kv=>decide (kv.1=k)).map (·.2)
def putK (kvs:List (κ×V)) (k:κ) (v:V):List (κ×V) :=
 if (kvs.any fun kv=>decide (kv.1=k))=true then kvs.map (fun kv=>if kv.1=k then (kv.1,v) else kv) else kvs++[(k,v)]
def dropK (kvs:List (κ×V)) (k:κ):List (κ×V):=kvs.filter fun kv=>decide (kv.1≠k)
theorem valV_pos {p:κ×V} {r:List (κ×V)} {k:κ} (e:p.1=k):valV (p::r) k=some p.2:=by simp [valV,List.find?_cons,e]
theorem valV_neg {p:κ×V} {r:List (κ×V)} {k:κ} (e:¬ p.1=k):valV (p::r) k=valV r k:=by simp [valV,List.find?_cons,e]
theorem valV_any (k:κ):∀ kvs:List (κ×V),(kvs.any fun kv=>decide (kv.1=k))=(valV kvs k).isSome
 | []=>rfl
 | p::r=>by
  rw [List.any_cons]
  by_cases e:p.1=k
  ·simp only [valV_pos e,decide_eq_true e,Bool.true_or,Option.isSome_some]
  ·rw [valV_neg e,decide_eq_false e,Bool.false_or];exact valV_any k r
theorem length_putK (kvs:List (κ×V)) (k:κ) (v:V):(putK kvs k v).length≤kvs.length+1:=by
 unfold putK
 split
 ·rw [List.length_map];omega
 ·rw [List.length_append,List.length_cons,List.length_nil];omega
theorem putK_new {kvs:List (κ×V)} {k:κ} (v:V) (h:valV kvs k=none):putK kvs k v=kvs++[(k,v)]:=by
 unfold putK
 rw [valV_any,h]
 exact if_neg (by decide)
theorem RelO.isSome_eq {o:Option V} {u:Option Value} (r:RelO o u):o.isSome=u.isSome:=by
 cases o with
 | none=>cases u with
  | none=>rfl
  | some _=>exact (show False from r).elim
 | some _=>cases u with
  | none=>exact (show False from r).elim
  | some _=>rfl
theorem KV.val {kvs:List (κ×V)} {vs:List (κ×Value)} (r:KV kvs vs) (k:κ):RelO (valV kvs k) (valueAt vs k):=by
 unfold KV at r
 induction r with
 | nil=>exact True.intro
 | @cons p q ps qs h t ih =>
  obtain ⟨h1,h2⟩:=h
  by_cases e:p.1=k
  ·have e':q.1=k:=h1.symm.trans e
   have b:valueAt (q::qs) k=some q.2:=by simp [valueAt,List.find?_cons,e']
   rw [valV_pos e,b];exact h2
  ·have e':¬ q.1=k:=fun z=>e (h1.trans z)
   have b:valueAt (q::qs) k=valueAt qs k:=by simp [valueAt,List.find?_cons,e']
   rw [valV_neg e,b];exact ih
theorem KV.any {kvs:List (κ×V)} {vs:List (κ×Value)} (r:KV kvs vs) (k:κ):(kvs.any fun kv=>decide (kv.1=k))=vs.any fun kv=>decide (kv.1=k):=by
 unfold KV at r
 induction r with
 | nil=>rfl
 | cons h t ih=>rw [List.any_cons,List.any_cons,ih,h.1]
theorem KV.repl {kvs:List (κ×V)} {vs:List (κ×Value)} (r:KV kvs vs) (k:κ) {y:V} {u:Value} (ry:RelV y u) :
  KV (kvs.map fun kv=>if kv.1=k then (kv.1,y) else kv) (vs.map fun kv=>if kv.1=k then (kv.1,u) else kv):=by
 unfold KV at r ⊢
 induction r with
 | nil=>exact .nil
 | @cons p q ps qs h t ih =>
  rw [List.map_cons,List.map_cons]
  refine .cons ?_ ih
  obtain ⟨h1,h2⟩:=h
  by_cases e:p.1=k
  ·rw [if_pos e,if_pos (h1.symm.trans e)];exact ⟨h1,ry⟩
  ·rw [if_neg e,if_neg (fun z=>e (h1.trans z))];exact ⟨h1,h2⟩
theorem KV.put {kvs:List (κ×V)} {vs:List (κ×Value)} (r:KV kvs vs) (k:κ) {y:V} {u:Value} (ry:RelV y u):KV (putK kvs k y) (stored vs k u):=by
 unfold putK stored
 rw [r.any k]
 by_cases e:(vs.any fun kv=>decide (kv.1=k))=true
 ·rw [if_pos e,if_pos e];exact r.repl k ry
 ·rw [if_neg e,if_neg e];exact Paired.snoc r ⟨rfl,ry⟩
theorem KV.drop {kvs:List (κ×V)} {vs:List (κ×Value)} (r:KV kvs vs) (k:κ):KV (dropK kvs k) (without vs k):=by
 unfold KV at r ⊢
 unfold dropK without
 induction r with
 | nil=>exact .nil
 | @cons p q ps qs h t ih =>
  obtain ⟨h1,h2⟩:=h
  rw [List.filter_cons,List.filter_cons]
  by_cases e:p.1=k
  ·have a:¬ decide (p.1≠k)=true:=by simp [e]
   have b:¬ decide (q.1≠k)=true:=by simp [h1.symm.trans e]
   rw [if_neg a,if_neg b];exact ih
  ·have e':¬ q.1=k:=fun z=>e (h1.trans z)
   have a:decide (p.1≠k)=true:=by simp [e]
   have b:decide (q.1≠k)=true:=by simp [e']
   rw [if_pos a,if_pos b];exact .cons ⟨h1,h2⟩ ih
theorem KV.keys {kvs:List (κ×V)} {vs:List (κ×Value)} (r:KV kvs vs):kvs.map (·.1)=vs.map (·.1):=by
 unfold KV at r
 induction r with
 | nil=>rfl
 | cons h t ih=>rw [List.map_cons,List.map_cons,ih,h.1]
theorem KV.length {kvs:List (κ×V)} {vs:List (κ×Value)} (r:KV kvs vs):kvs.length=vs.length:=Paired.length r
theorem dropK_le (kvs:List (κ×V)) (k:κ):(dropK kvs k).length≤kvs.length:=List.length_filter_le _ _
end
theorem kV_is {P:Program} {w:World} {k:Key} {u:Value} (r:RelV (kV k) u):(mixKind P w).is k u=true:=by
 cases k with
 | inl i=>obtain ⟨t,e⟩:=(show ∃ t,u=Value.int i t from r);subst e;exact mixKind_int P w i t
 | inr x=>obtain ⟨t,e⟩:=(show ∃ t,u=Value.str x t from r);subst e;exact mixKind_str P w x t
theorem items_are {P:Program} {w:World}:∀ {ks:List Key} {us:List Value},Vals (ks.map kV) us→ItemsAre (mixKind P w) ks us
 | [],_,r=>by rw [List.map_nil] at r;cases r;exact .nil
 | k::ks,_,r=>by
  rw [List.map_cons] at r
  cases r with
  | cons h t=>exact .cons (kV_is h) (items_are t)
abbrev KT (H:Hp):List (List Key×V)→List (List Key×Addr×Value)→Prop:=Paired fun p q=>p.1=q.1∧H q.2.1=some (.tup (p.1.map kV))∧RelV p.2 q.2.2
theorem KT.val {H:Hp} {kvs:List (List Key×V)} {xs:List (List Key×Addr×Value)} (r:KT H kvs xs) (k:List Key):RelO (valV kvs k) ((atKey xs k).map (·.2)):=by
 induction r with
 | nil=>exact True.intro
 | @cons p q ps qs h t ih =>
  obtain ⟨h1,_,h2⟩:=h
  by_cases e:p.1=k
  ·have e':q.1=k:=h1.symm.trans e
   have b:atKey (q::qs) k=some q.2:=by simp [atKey,List.find?_cons,e']
   rw [valV_pos e,b];exact h2
  ·have e':¬ q.1=k:=fun z=>e (h1.trans z)
   have b:atKey (q::qs) k=atKey qs k:=by simp [atKey,List.find?_cons,e']
   rw [valV_neg e,b];exact ih
theorem KT.repl {H:Hp} {kvs:List (List Key×V)} {xs:List (List Key×Addr×Value)} (r:KT H kvs xs) (k:List Key) {y:V} {u:Value} (ry:RelV y u) :
  KT H (kvs.map fun kv=>if kv.1=k then (kv.1,y) else kv) (xs.map (putAt k u)):=by
 induction r with
 | nil=>exact .nil
 | @cons p q ps qs h t ih =>
  rw [List.map_cons,List.map_cons]
  refine .cons ?_ ih
  obtain ⟨h1,h2,h3⟩:=h
  unfold putAt
  by_cases e:p.1=k
  ·rw [if_pos e,if_pos (h1.symm.trans e)];exact ⟨h1,h2,ry⟩
  ·rw [if_neg e,if_neg (fun z=>e (h1.trans z))];exact ⟨h1,h2,h3⟩
theorem KT.put {H:Hp} {kvs:List (List Key×V)} {xs:List (List Key×Addr×Value)} (r:KT H kvs xs) (k:List Key) {b:Addr} {y:V} {u:Value} (hb:H b=some (.tup (k.map kV))) (ry:RelV y u) :
  KT H (putK kvs k y) (storedH xs k b u):=by
 have e:(kvs.any fun kv=>decide (kv.1=k))=(atKey xs k).isSome:=by
  rw [valV_any,(r.val k).isSome_eq,Option.isSome_map]
 unfold putK storedH
 rw [e]
 by_cases q:(atKey xs k).isSome=true
 ·rw [if_pos q,if_pos q];exact r.repl k ry
 ·rw [if_neg q,if_neg q];exact Paired.snoc r ⟨rfl,hb,ry⟩
theorem KT.keeps {H H':Hp} {kvs:List (List Key×V)} {xs:List (List Key×Addr×Value)} (r:KT H kvs xs) (ht:∀ b ys,H b=some (.tup ys)→H' b=some (.tup ys)):KT H' kvs xs :=
 Paired.mapP r fun _ _ z=>⟨z.1,ht _ _ z.2.1,z.2.2⟩
section
variable {P:Program} {w:World} {H:Hp} {h:Heap} {a:Addr}
theorem rd_of {u:HO} (ok:HOk P w H h) (e:Rd H a u):ObjOk P w H h a u:=e.ok ok
theorem dk_rd {kvs:List (Key×V)} (ok:HOk P w H h) (e:Rd H a (.dK kvs)):kvs.length≤sizeLine∧(a == sysModules)=false∧∃ vs,KV kvs vs∧h.DictOf (mixKind P w) a vs :=
 show ObjOk P w H h a (.dK kvs) from rd_of ok e
theorem dk_of {kvs:List (Key×V)} (ok:HOk P w H h) (e:H a=some (.dK kvs)):kvs.length≤sizeLine∧(a == sysModules)=false∧∃ vs,KV kvs vs∧h.DictOf (mixKind P w) a vs:=dk_rd ok (.inl e)
theorem key_of {ks:List Key} (ok:HOk P w H h) (e:H a=some (.tup (ks.map kV))):(tupleKind (mixKind P w)).is h ks a:=by
 obtain ⟨_,its,r,o,h1,h2,n,h3⟩:=(show ObjOk P w H h a (.tup (ks.map kV)) from ok a _ e)
 exact ⟨o,its.toArray,n,h1,h2,h3,by simpa using items_are r⟩
theorem dt_rd {kvs:List (List Key×V)} (ok:HOk P w H h) (e:Rd H a (.dT kvs)):kvs.length≤sizeLine∧(a == sysModules)=false ∧
  ∃ xs,KT H kvs xs∧h.DictOfH (tupleKind (mixKind P w)) a xs:=by
 obtain ⟨z,y,xs,r,o,es,ep,h1,h2,h3,h4,h5⟩:=(show ObjOk P w H h a (.dT kvs) from rd_of ok e)
 refine ⟨z,y,xs,r,o,es,ep,h1,h2,h3,h4,fun x hx=>?_,h5⟩
 have all:∀ {l:List (List Key×V)} {m:List (List Key×Addr×Value)},KT H l m→∀ x∈m,(tupleKind (mixKind P w)).is h x.1 x.2.1:=by
  intro l m q
  induction q with
  | nil=>intro x hx;exact nomatch hx
  | @cons p q ps qs hq t ih =>
   intro x hx
   rcases List.mem_cons.mp hx with e | hx
   ·subst e
    exact key_of ok (by rw [←hq.1];exact hq.2.1)
   ·exact ih x hx
 exact all r x hx
theorem dt_of {kvs:List (List Key×V)} (ok:HOk P w H h) (e:H a=some (.dT kvs)):kvs.length≤sizeLine∧(a == sysModules)=false ∧
  ∃ xs,KT H kvs xs∧h.DictOfH (tupleKind (mixKind P w)) a xs:=dt_rd ok (.inl e)
end
def DGet (H:Hp) (a:Addr) (y:V) (r:Option V):Prop :=
 (∃ kvs k,Rd H a (.dK kvs)∧y=kV k∧r=valV kvs k)∨∃ kvs k b,Rd H a (.dT kvs)∧y=.ref b∧H b=some (.tup (k.map kV))∧r=valV kvs k
def DPut (H:Hp) (a:Addr) (y v:V) (H':Hp):Prop :=
 (∃ kvs k,H a=some (.dK kvs)∧y=kV k∧kvs.length<sizeLine∧H' = upd H a (.dK (putK kvs k v))) ∨
 ∃ kvs k b,H a=some (.dT kvs)∧y=.ref b∧H b=some (.tup (k.map kV))∧kvs.length<sizeLine∧H' = upd H a (.dT (putK kvs k v))
theorem DGet.k {H:Hp} {a:Addr} {kvs:List (Key×V)} {k:Key} (e:H a=some (.dK kvs)):DGet H a (kV k) (valV kvs k):=.inl ⟨kvs,k,.inl e,rfl,rfl⟩
theorem DPut.k {H:Hp} {a:Addr} {kvs:List (Key×V)} {k:Key} {v:V} (e:H a=some (.dK kvs)) (hl:kvs.length<sizeLine):DPut H a (kV k) v (upd H a (.dK (putK kvs k v))):=.inl ⟨kvs,k,e,rfl,hl,rfl⟩
section
variable {X:Cx} {pins:List (Addr×Obj)} {σ:St} {H:Hp} {s:Shared} {a:Addr} {y v:V} {u r:Value} {o:Option V} {A:Around} {E:Value→Shared→Prop}
theorem Inv.big (I:Inv X pins σ H s):sysModules<s.heap.objs.size:=by
 have h:mainGlobals<s.heap.objs.size:=(I.mod.glob.keeps I.bk).lt
 exact Nat.lt_trans (by decide) h
theorem Fz {Q:Value→Shared→Prop} (hu:A.units+1<cLine) (I:Inv X pins σ H s) (g:DGet H a y (some v)) (ry:RelV y u) (h:∀ w' s',Inv X pins σ H s'→RelV v w'→Q w' s') :
  wpAny (model X.prog X.w) A (getItem (.ref a) u) Q E s:=by
 rcases g with ⟨kvs,k,e,ey,l⟩ | ⟨kvs,k,b,e,ey,eb,l⟩
 ·subst ey
  obtain ⟨z,hd,vs,rel,dd⟩:=dk_rd I.hok e
  obtain ⟨w',hw,rw'⟩:=RelO.some_of (v:=v) (o:=valueAt vs k) (by rw [l];exact rel.val k)
  exact wpAny_getItem_of (kV_is ry) dd.mapOf hw (h w' _ (I.tok _) rw')
 ·subst ey
  cases (show u=Value.ref b from ry)
  obtain ⟨z,hd,xs,rel,dd⟩:=dt_rd I.hok e
  obtain ⟨w',hw,rw'⟩:=RelO.some_of (v:=v) (o:=(atKey xs k).map (·.2)) (by rw [l];exact rel.val k)
  obtain ⟨p,hp,hp2⟩:=Option.map_eq_some_iff.mp hw
  refine wpAny_getItem_heap (tupleKind_room_in1 hu) (key_of I.hok eb) dd hp ?_
  rw [hp2]
  exact h w' _ (I.tok _) rw'
theorem d_in {Q:Value→Shared→Prop} (hu:A.units+1<cLine) (I:Inv X pins σ H s) (g:DGet H a y o) (ry:RelV y u) (h:∀ s',Inv X pins σ H s'→Q (.bool o.isSome) s') :
  wpAny (model X.prog X.w) A (compareOp .In u (.ref a)) Q E s:=by
 rcases g with ⟨kvs,k,e,ey,l⟩ | ⟨kvs,k,b,e,ey,eb,l⟩
 ·subst ey
  obtain ⟨z,hd,vs,rel,dd⟩:=dk_rd I.hok e
  refine wpAny_in_of (kV_is ry) hd dd.mapOf ?_
  rw [←(rel.val k).isSome_eq,←l]
  exact h _ (I.tok _)
 ·subst ey
  cases (show u=Value.ref b from ry)
  obtain ⟨z,hd,xs,rel,dd⟩:=dt_rd I.hok e
  refine wpAny_in_heap (tupleKind_room_in1 hu) (key_of I.hok eb) hd dd ?_
  have q:=(rel.val k).isSome_eq
  rw [Option.isSome_map] at q
  rw [←q,←l]
  exact h _ (I.tok _)
theorem d_notIn {Q:Value→Shared→Prop} (hu:A.units+1<cLine) (I:Inv X pins σ H s) (g:DGet H a y o) (ry:RelV y u) (h:∀ s',Inv X pins σ H s'→Q (.bool (!o.isSome)) s') :
  wpAny (model X.prog X.w) A (compareOp .NotIn u (.ref a)) Q E s:=by
 rcases g with ⟨kvs,k,e,ey,l⟩ | ⟨kvs,k,b,e,ey,eb,l⟩
 ·subst ey
  obtain ⟨z,hd,vs,rel,dd⟩:=dk_rd I.hok e
  refine wpAny_notIn_of (kV_is ry) hd dd.mapOf ?_
  rw [←(rel.val k).isSome_eq,←l]
  exact h _ (I.tok _)
 ·subst ey
  cases (show u=Value.ref b from ry)
  obtain ⟨z,hd,xs,rel,dd⟩:=dt_rd I.hok e
  refine wpAny_notIn_heap (tupleKind_room_in1 hu) (key_of I.hok eb) hd dd ?_
  have q:=(rel.val k).isSome_eq
  rw [Option.isSome_map] at q
  rw [←q,←l]
  exact h _ (I.tok _)
theorem d_write {h':Heap} {t':Nat} {ob:HO} (I:Inv X pins σ H s) (mu:Mut (H a)) (hs:Heap.SameBut a s.heap h') (he:∃ q,h'.get? a=some q) (new:ObjOk X.prog X.w (upd H a ob) h' a ob) :
  Inv X pins σ (upd H a ob) { s with heap:=h',toks:=t' } :=
 I.write (x:=a) (e:=a) mu (.inl rfl) (fun b q hb z=>(hs.2 b hb).trans z) he new
theorem dk_new {P:Program} {w:World} {H':Hp} {h':Heap} {kvs:List (Key×V)} {vs:List (Key×Value)} (z:kvs.length≤sizeLine) (hd:(a == sysModules)=false) (rel:KV kvs vs) (dd:h'.DictOf (mixKind P w) a vs) :
  ObjOk P w H' h' a (.dK kvs):=⟨z,hd,vs,rel,dd⟩
theorem d_setItem {H':Hp} {Q:Unit→Shared→Prop} (hu:A.units+1<cLine) (I:Inv X pins σ H s) (g:DPut H a y v H') (ry:RelV y u) (rv:RelV v r) (h:∀ s',Inv X pins σ H' s'→Q () s') :
  wpAny (model X.prog X.w) A (setItem (.ref a) u r) Q E s:=by
 rcases g with ⟨kvs,k,e,ey,l,eH⟩ | ⟨kvs,k,b,e,ey,eb,l,eH⟩
 ·subst ey eH
  obtain ⟨z,hd,vs,rel,dd⟩:=dk_of I.hok e
  have hz:vs.length≤sizeLine:=by rw [←rel.length];exact z
  have hl:(putK kvs k v).length≤sizeLine:=by have:=length_putK kvs k v;omega
  refine wpAny_setItem_pairs (hsz:=hz) (kV_is ry) dd fun h' dd' hs=>h _ ?_
  have he:∃ q,h'.get? a=some q:=let ⟨q,_,_,hq,_⟩:=dd';⟨q,hq⟩
  exact d_write I (by rw [e];exact True.intro) hs he (dk_new hl hd (rel.put k rv) dd')
 ·subst ey eH
  cases (show u=Value.ref b from ry)
  obtain ⟨z,hd,xs,rel,dd⟩:=dt_of I.hok e
  have hz:xs.length≤sizeLine:=by rw [←Paired.length rel];exact z
  have hl:(putK kvs k v).length≤sizeLine:=by have:=length_putK kvs k v;omega
  refine wpAny_setItem_heap (hsz:=hz) (tupleKind_room_in1 hu) (key_of I.hok eb) dd fun h' dd' hs=>h _ ?_
  obtain ⟨q,es,ep,hq,h2,h3,h4,_,h5⟩:=dd'
  refine d_write I (by rw [e];exact True.intro) hs ⟨q,hq⟩ ⟨hl,hd,_,(rel.put k eb rv).keeps fun c ys ec=>?_,q,es,ep,hq,h2,h3,h4,h5⟩
  rw [upd_ne (ne_of ec e (fun z=>nomatch z))]
  exact ec
end
section
variable {X:Cx} {pins:List (Addr×Obj)} {σ:St} {H:Hp} {s:Shared} {a:Addr} {kvs:List (Key×V)} {k:Key} {u:Value} {A:Around} {E:Value→Shared→Prop}
theorem abz {v:V} {more:List Value} {Q:Value→Shared→Prop} (I:Inv X pins σ H s) (e:H a=some (.dK kvs)) (ry:RelV (kV k) u) (l:valV kvs k=some v) (hm:more=[]∨∃ x,more=[x])
  (h:∀ w' s',Inv X pins σ (upd H a (.dK (dropK kvs k))) s'→RelV v w'→Q w' s'):wpAny (model X.prog X.w) A (call (.builtin "dict.pop") (.ref a::u::more)) Q E s:=by
 obtain ⟨z,hd,vs,rel,dd⟩:=dk_of I.hok e
 obtain ⟨w',hw,rw'⟩:=RelO.some_of (v:=v) (o:=valueAt vs k) (by rw [←l];exact rel.val k)
 have hp:(keyPart u).isSome=true:=by
  cases k with
  | inl i=>obtain ⟨t,q⟩:=(show ∃ t,u=Value.int i t from ry);subst q;rfl
  | inr x=>obtain ⟨t,q⟩:=(show ∃ t,u=Value.str x t from ry);subst q;rfl
 have ha:argsOk "dict.pop" ⟨.ref a::u::more,[]⟩:=by
  rcases hm with q | ⟨x,q⟩
  ·subst q;exact PySem.F.args_dict_pop_2 _ _
  ·subst q;exact PySem.F.args_dict_pop_3 _ _ _
 refine call_meetsIn PySem.F.slot_dict_pop dd.typeIs PySem.F.entry_dict_pop ha (meets_dict_pop_there (mixKind X.prog X.w) a (kV_is ry) more hm hp)
  ⟨vs,w',dd,by rw [←rel.length];exact z,hw,fun h' dd' hs=>h w' _ ?_ rw'⟩
 have he:∃ q,h'.get? a=some q:=let ⟨q,_,_,hq,_⟩:=dd';⟨q,hq⟩
 exact d_write I (by rw [e];exact True.intro) hs he (dk_new (Nat.le_trans (dropK_le kvs k) z) hd (rel.drop k) dd')
theorem d_len {Q:Value→Shared→Prop} (I:Inv X pins σ H s) (e:Rd H a (.dK kvs)) (h:∀ t s',Inv X pins σ H s'→Q (.int kvs.length t) s'):wpAny (model X.prog X.w) A (call (.builtin "len") [.ref a]) Q E s:=by
 obtain ⟨z,hd,vs,rel,dd⟩:=dk_rd I.hok e
 refine call_len_dict hd dd (by rw [←rel.length];rw [sizeLine_eq] at z;omega) ?_
 rw [←rel.length]
 exact h _ _ (I.tok _)
end
def aad (i:Expr):Prop:=∀ ov iv,subscripted i false ov iv=operate [ov,iv] (getItem ov iv)
theorem Xm {prog:Program} {w:World} {A:Around} {E:Value→Shared→Prop} {s:Shared} {env:Env} {value slice:Expr} {pos:Pos} {T id:String} {Q:Value→Shared→Prop}
  (hl:typeLookup (.type T) "__getitem__" = pure (some (.builtin id))) (hs:aad slice)
  (h:wpAny (model prog w) A (eval value env) (fun o s₁=>wpAny (model prog w) A (eval slice env) (fun i s₂=>s₂.TypeIs o T∧wpAny (model prog w) A (getItem o i) Q E s₂) E s₁) E s) :
  wpAny (model prog w) A (eval (.Subscript value slice pos) env) Q E s:=by
 refine Subscript_ (wpAny_mono h (fun o s₁ h₁=>wpAny_mono h₁ (fun i s₂ h₂=>?_) fun _ _ x=>x) fun _ _ x=>x)
 obtain ⟨hT,h₂⟩:=h₂
 unfold subscriptTail
 refine wpAny_bind ?_
 rw [getitemInPython_of_ne hT.not_modules]
 refine wpAny_bind (wpAny_specialOf hT hl ?_)
 have fin:wpAny (model prog w) A (subscripted slice false o i) (fun r s₃=>wpAny (model prog w) A (letTemporaryGo value o r >>= fun _=>pure r) Q E s₃) E s₂:=by
  rw [hs o i]
  exact wpAny_operating (wpAny_mono h₂ (fun r s₃ h₃=>wpAny_bind (wpAny_letTemporaryGo (wpAny_pure h₃))) fun _ _ x=>x)
 first
  | exact wpAny_pure (wpAny_bind fin)
  | exact wpAny_bind (wpAny_pure (wpAny_bind fin))
  | exact wpAny_bind fin
theorem Jj {X:Cx} {pins:List (Addr×Obj)} {σ:St} {H:Hp} {s:Shared} {a:Addr} {y:V} {o:Option V} (I:Inv X pins σ H s) (g:DGet H a y o):s.TypeIs (.ref a) "dict":=by
 rcases g with ⟨kvs,k,e,_,_⟩ | ⟨kvs,k,b,e,_,_,_⟩
 ·obtain ⟨_,_,vs,_,dd⟩:=dk_rd I.hok e
  exact dd.typeIs
 ·obtain ⟨_,_,xs,_,dd⟩:=dt_rd I.hok e
  exact dd.typeIs
def Ob (td ty:TE):TE:=fun σ H Q=>td σ H fun x H1=>ty σ H1 fun y H2=>∃ a v,x=.ref a∧DGet H2 a y (some v)∧Q v H2
def tDIn (ty td:TE):TE:=fun σ H Q=>ty σ H fun y H1=>td σ H1 fun x H2=>∃ a o,x=.ref a∧DGet H2 a y o∧Q (.bl o.isSome) H2
def tDNotIn (ty td:TE):TE:=fun σ H Q=>ty σ H fun y H1=>td σ H1 fun x H2=>∃ a o,x=.ref a∧DGet H2 a y o∧Q (.bl (!o.isSome)) H2
def sDPut (td ty tv:TE):TS:=fun D σ H=>tv σ H fun v H1=>td σ H1 fun x H2=>ty σ H2 fun y H3=>∃ a H4,x=.ref a∧DPut H3 a y v H4∧D.nx σ H4
def Oc (td ty tv:TE) (rd:V→V→Hp→VK→Prop):TS:=fun D σ H=>td σ H fun x H1=>ty σ H1 fun y H2=>∃ a v,x=.ref a∧DGet H2 a y (some v) ∧
 tv σ H2 fun y2 H3=>rd v y2 H3 fun z H4=>∃ H5,DPut H4 a y z H5∧D.nx σ H5
section
variable {X:Cx} {o i e value:Expr} {pos pos' tpos:Pos} {td ty tv:TE}
theorem Xn (hu:X.A.units+1<cLine) (ho:PE X o td) (hi:PE X i ty) (hs:aad i):PE X (.Subscript o i pos) (Ob td ty):=by
 intro pins s σ H Q I h
 refine Xm PySem.F.slot_dict_getitem.lookup hs (thn (ho pins s σ H _ I h) fun u s1 ⟨x,H1,I1,rx,q1⟩=>thn (hi pins s1 σ H1 _ I1 q1) fun iv s2 ⟨y,H2,I2,ry,a,v,ex,g,q2⟩=>?_)
 subst ex
 obtain rfl:u=Value.ref a:=rx
 exact ⟨Jj I2 g,Fz hu I2 g ry fun w' s3 I3 rw'=>⟨v,H2,I3,rw',q2⟩⟩
theorem pc_din (hu:X.A.units+1<cLine) (hi:PE X i ty) (ho:PE X o td):PC X .In i o (tDIn ty td):=by
 intro pins s σ H Q I h
 refine thn (hi pins s σ H _ I h) fun iv s1 ⟨y,H1,I1,ry,q1⟩=>thn (ho pins s1 σ H1 _ I1 q1) fun u s2 ⟨x,H2,I2,rx,a,ov,ex,g,q2⟩=>?_
 subst ex
 obtain rfl:u=Value.ref a:=rx
 exact d_in hu I2 g ry fun s3 I3=>⟨.bl ov.isSome,H2,I3,rfl,q2⟩
theorem pc_dnotin (hu:X.A.units+1<cLine) (hi:PE X i ty) (ho:PE X o td):PC X .NotIn i o (tDNotIn ty td):=by
 intro pins s σ H Q I h
 refine thn (hi pins s σ H _ I h) fun iv s1 ⟨y,H1,I1,ry,q1⟩=>thn (ho pins s1 σ H1 _ I1 q1) fun u s2 ⟨x,H2,I2,rx,a,ov,ex,g,q2⟩=>?_
 subst ex
 obtain rfl:u=Value.ref a:=rx
 exact d_notIn hu I2 g ry fun s3 I3=>⟨.bl (!ov.isSome),H2,I3,rfl,q2⟩
theorem ps_dput (hu:X.A.units+1<cLine) (ho:PE X o td) (hi:PE X i ty) (hv:PE X value tv) (hs:swapsWith value (some (.Subscript o i pos')) pos.line X.env=pure false) :
  PS X (.Assign [.Subscript o i pos'] value pos) (sDPut td ty tv):=by
 intro pins s σ H D I h
 refine wpAny_Assign_Subscript (thn (hv pins s σ H _ I h) fun r s1 ⟨v,H1,I1,rv,q1⟩=>thn (ho pins s1 σ H1 _ I1 q1) fun u s2 ⟨x,H2,I2,rx,q2⟩=>thn (hi pins s2 σ H2 _ I2 q2) fun iv s3 ⟨y,H3,I3,ry,a,H4,ex,g,q3⟩=>?_) hs
 subst ex
 obtain rfl:u=Value.ref a:=rx
 exact d_setItem hu I3 g ry rv fun s4 I4=>⟨σ,H4,I4,q3⟩
theorem Xo {op:Operator} {rd:V→V→Hp→VK→Prop} (hu:X.A.units+1<cLine) (ho:PE X o td) (hi:PE X i ty) (hv:PE X value tv) (hop:ac3 X op rd)
  (ha:∀ ov iv new,augStore i ov iv new=(do holding [new,ov,iv] (setItem ov iv new);release [new,ov,iv] [];pure .next)):PS X (.AugAssign (.Subscript o i tpos) op value pos) (Oc td ty tv rd):=by
 intro pins s σ H D I h
 refine wpAny_AugAssign_SubscriptAny (thn (ho pins s σ H _ I h) fun u s1 ⟨x,H1,I1,rx,q1⟩=>thn (hi pins s1 σ H1 _ I1 q1) fun iv s2 ⟨y,H2,I2,ry,a,v,ex,g,q2⟩=>?_) ha
 subst ex
 obtain rfl:u=Value.ref a:=rx
 refine Fz hu I2 g ry fun w' s3 I3 rw'=>thn (hv pins s3 σ H2 _ I3 q2) fun w2 s4 ⟨y2,H3,I4,ry2,q3⟩=>thn (hop pins s4 σ H3 v y2 w' w2 _ I4 rw' ry2 q3) fun w3 s5 ⟨z,H4,I5,rz,H5,g5,q4⟩=>?_
 exact d_setItem hu I5 g5 ry rz fun s6 I6=>⟨σ,H5,I6,q4⟩
end
theorem dk_empty {P:Program} {w:World} {H:Hp} (h:Heap) (hb:sysModules<h.objs.size):ObjOk P w H (h.push { cls:=.type "dict",data:=.dict #[] }) h.objs.size (.dK []) :=
 ⟨Nat.zero_le _,beq_eq_false_iff_ne.mpr (Ne.symm (Nat.ne_of_lt hb)),[],.nil,Heap.DictOf.new h⟩
def tDNewK:TE:=fun _ H Q=>∀ p,H p=none→Q (.ref p) (upd H p (.dK []))
section
variable {X:Cx} {pos:Pos}
theorem pe_dnewK:PE X (.Dict [] [] pos) tDNewK:=fun pins s σ H Q I h =>
 wpAny_Dict_empty ⟨.ref s.heap.objs.size,_,I.laid (a:=s.heap.objs.size) (o:=.dK []) (t':=s.toks) (fun _ _ q=>Heap.get?_push_of_some _ q) (Nat.le_refl _) (dk_empty s.heap I.big),rfl,h _ (I.hok.fresh (Nat.le_refl _))⟩
end
def Lh:List (TE×TE)→St→Hp→(List (V×V)→Hp→Prop)→Prop
 | [],_,H,Q=>Q [] H
 | (tk,tv)::r,σ,H,Q=>tk σ H fun x H1=>tv σ H1 fun y H2=>Lh r σ H2 fun ps H3=>Q ((x,y)::ps) H3
abbrev VV:List (V×V)→List (Value×Value)→Prop:=Paired fun p q=>RelV p.1 q.1∧RelV p.2 q.2
def PPs (X:Cx) (pos:Pos) (keys:List (Option Expr)) (values:List Expr) (Xp:List (TE×TE)):Prop :=
 ∀ (pins:List (Addr×Obj)) (s:Shared) (σ:St) (H:Hp) (Q:List (V×V)→Hp→Prop),Inv X pins σ H s→Lh Xp σ H Q →
  wpAny (model X.prog X.w) X.A (evalPairs (pairTrees keys values X.env pos)) (fun vs s'=>∃ ps H',Inv X pins σ H' s'∧VV ps vs∧Q ps H') X.xe s
theorem Xq {X:Cx} {pos:Pos}:PPs X pos [] [] []:=fun pins s σ H Q I h=>pairTrees_nil_walk ⟨[],H,I,.nil,h⟩
theorem TJ {X:Cx} {pos:Pos} {k v:Expr} {ks:List (Option Expr)} {vs:List Expr} {tk tv:TE} {Xp:List (TE×TE)} (hk:PE X k tk) (hv:PE X v tv) (hr:PPs X pos ks vs Xp) :
  PPs X pos (some k::ks) (v::vs) ((tk,tv)::Xp):=fun pins s σ H Q I h =>
 pairTrees_cons_walk (thn (hk pins s σ H _ I h) fun u s1 ⟨x,H1,I1,rx,q1⟩=>thn (hv pins s1 σ H1 _ I1 q1) fun w2 s2 ⟨y,H2,I2,ry,q2⟩ =>
  thn (hr pins s2 σ H2 _ I2 q2) fun ws s3 ⟨ps,H3,I3,rel,q3⟩=>⟨(x,y)::ps,H3,I3,.cons ⟨rx,ry⟩ rel,q3⟩)
def sS (kvs more:List (Key×V)):List (Key×V):=more.foldl (fun acc kv=>putK acc kv.1 kv.2) kvs
theorem KV.merge:∀ {more:List (Key×V)} {rs:List (Key×Value)} {kvs:List (Key×V)} {vs:List (Key×Value)},KV more rs→KV kvs vs→KV (sS kvs more) (merged vs rs):=by
 intro more rs kvs vs r
 unfold KV at r
 induction r generalizing kvs vs with
 | nil=>intro q;exact q
 | @cons p q ps qs h t ih =>
  intro r0
  have e:KV (putK kvs p.1 p.2) (stored vs q.1 q.2):=by
   have:=r0.put p.1 h.2
   rw [←h.1];exact this
  exact ih e
theorem uZ:∀ (more kvs:List (Key×V)),(sS kvs more).length≤kvs.length+more.length
 | [],kvs=>by show kvs.length≤kvs.length+0;omega
 | p::r,kvs=>by
  have h1:=uZ r (putK kvs p.1 p.2)
  have h2:=length_putK kvs p.1 p.2
  show (sS (putK kvs p.1 p.2) r).length≤_
  rw [List.length_cons];omega
theorem Bx {P:Program} {w:World}:∀ {kvs:List (Key×V)} {ws:List (Value×Value)},VV (kvs.map fun kv=>(kV kv.1,kv.2)) ws→∃ rs,Carries (mixKind P w) ws rs∧KV kvs rs
 | [],_,r=>by rw [List.map_nil] at r;cases r;exact ⟨[],True.intro,.nil⟩
 | p::kvs,_,r=>by
  rw [List.map_cons] at r
  cases r with
  | @cons a b as bs h t =>
   obtain ⟨rs,c,q⟩:=Bx (P:=P) (w:=w) t
   obtain ⟨b1,b2⟩:=b
   exact ⟨(p.1,b2)::rs,⟨kV_is h.1,rfl,c⟩,.cons ⟨rfl,h.2⟩ q⟩
def TQ (Xp:List (TE×TE)):TE:=fun σ H Q=>∀ p,H p=none→Lh Xp σ (upd H p (.dK [])) fun ps H2=>H2 p=some (.dK [])∧∃ kvs:List (Key×V),ps=kvs.map (fun kv=>(kV kv.1,kv.2))∧kvs.length≤15∧Q (.ref p) (upd H2 p (.dK (sS [] kvs)))
theorem Xr {X:Cx} {pos:Pos} {keys:List (Option Expr)} {values:List Expr} {Xp:List (TE×TE)} (h:PPs X pos keys values Xp) (hall:keys.all (·.isSome)=true) (hl:keys.length=values.length) (h0:keys≠[])
  (h15:keys.length≤15):PE X (.Dict keys values pos) (TQ Xp):=by
 intro pins s σ H Q I q
 have hn:=I.hok.fresh (Nat.le_refl s.heap.objs.size)
 have I1:=I.laid (a:=s.heap.objs.size) (o:=.dK []) (h':=s.heap.push { cls:=.type "dict",data:=.dict #[] }) (t':=s.toks) (fun _ _ q=>Heap.get?_push_of_some _ q) (Nat.le_refl _) (dk_empty s.heap I.big)
 refine wpAny_Dict_walk (knd:=mixKind X.prog X.w) hall hl h0 h15 (thn (h pins _ σ _ _ I1 (q _ hn)) fun ws s2 ⟨ps,H2,I2,rel,e,kvs,ep,lk,q2⟩=>?_)
 subst ep
 obtain ⟨rs,c,rk⟩:=Bx (P:=X.prog) (w:=X.w) rel
 obtain ⟨z,hd,vs0,r0,dd⟩:=dk_of I2.hok e
 cases r0
 refine ⟨rs,c,dd,fun h' dd' hs=>⟨.ref s.heap.objs.size,_,?_,rfl,q2⟩⟩
 have hz:(sS [] kvs).length≤sizeLine:=by
  have h1:=uZ kvs []
  rw [List.length_nil] at h1
  rw [sizeLine_eq];omega
 have he:∃ q,h'.get? s.heap.objs.size=some q:=let ⟨q,_,_,hq,_⟩:=dd';⟨q,hq⟩
 exact d_write I2 (by rw [e];exact True.intro) hs he (dk_new hz hd (rk.merge .nil) dd')
structure M1 (X:Cx) (o:Expr) (m:Str) (apos:Pos) (e:Expr) (cpos:Pos):Prop where
 base:attributeBase o m X.env (eval o X.env)=eval o X.env
 few:((backTo cpos (starEach [e] X.env)).all (fun x=>!x.1) && (backToKw cpos (keywordEach [] X.env)).all (fun x=>x.1.isSome)
  && decide (([e]:List Expr).length+([]:List Keyword).length+(if ([]:List Keyword).isEmpty then 0 else 1)<30))=true
 line:(apos.endLine == cpos.line)=true
 trees:backTo cpos (starEach [e] X.env)=[(false,eval e X.env)]
def IsD (H:Hp) (a:Addr):Prop:=(∃ kvs,Rd H a (.dK kvs))∨∃ kvs,Rd H a (.dT kvs)
theorem aae {X:Cx} {pins:List (Addr×Obj)} {σ:St} {H:Hp} {s:Shared} {a:Addr} (I:Inv X pins σ H s) (d:IsD H a) :
  s.TypeIs (.ref a) "dict"∧(∀ b,Value.ref a=.ref b→∃ ob,s.heap.get? b=some ob∧ob.dict=none)∧(a == sysModules)=false:=by
 rcases d with ⟨kvs,e⟩ | ⟨kvs,e⟩
 ·obtain ⟨_,hd,vs,_,dd⟩:=dk_rd I.hok e
  refine ⟨dd.typeIs,fun b q=>?_,hd⟩
  cases q
  obtain ⟨ob,_,_,h1,h2,_⟩:=dd
  exact ⟨ob,h1,h2.2.1⟩
 ·obtain ⟨_,hd,xs,_,dd⟩:=dt_rd I.hok e
  refine ⟨dd.typeIs,fun b q=>?_,hd⟩
  cases q
  obtain ⟨ob,_,_,h1,h2,_⟩:=dd
  exact ⟨ob,h1,h2.2.1⟩
section
variable {X:Cx} {pins:List (Addr×Obj)} {σ:St} {H:Hp} {s:Shared} {a:Addr} {y d:V} {u r:Value} {o:Option V} {A:Around} {E:Value→Shared→Prop}
end
def Li (td ty:TE):TE:=fun σ H Q=>td σ H fun x H1=>∃ a,x=.ref a∧IsD H1 a∧ty σ H1 fun y H2=>∃ kvs k v,H2 a=some (.dK kvs)∧y=kV k∧valV kvs k=some v∧Q v (upd H2 a (.dK (dropK kvs k)))
section
variable {X:Cx} {o e f:Expr} {apos cpos:Pos} {td ty tx:TE}
theorem TV (ho:PE X o td) (he:PE X e ty) (m:M1 X o "pop" apos e cpos):PE X (.Call (.Attribute o "pop" apos) [e] [] cpos) (Li td ty):=by
 intro pins s σ H Q I h
 refine wpAny_Call_method m.base m.few m.line PySem.F.plainAttrs_dict PySem.F.slot_dict_pop PySem.F.type_dict_pop (thn (ho pins s σ H _ I h) fun u s1 ⟨x,H1,I1,rx,a,ex,d,q1⟩=>?_)
 subst ex
 obtain rfl:u=Value.ref a:=rx
 obtain ⟨t1,t2,_⟩:=aae I1 d
 refine ⟨t1,t2,?_⟩
 rw [m.trees]
 refine Calls.callWith_builtin rfl (Calls.evalArgs_plain (Calls.spliced_cons (thn (he pins s1 σ H1 _ I1 q1) fun iv s2 ⟨y,H2,I2,ry,kvs,k,v,ea,ey,l,q2⟩=>Calls.spliced_nil ?_)))
 subst ey
 exact abz I2 ea ry l (.inl rfl) fun w' s3 I3 rw'=>⟨v,_,I3,rw',q2⟩
end
section
variable {X:Cx} {pins:List (Addr×Obj)} {σ:St} {H:Hp} {s:Shared} {a:Addr} {kvs:List (Key×V)} {A:Around} {E:Value→Shared→Prop}
end
section
variable {X:Cx} {pins:List (Addr×Obj)} {σ:St} {H:Hp} {s:Shared} {a:Addr} {y:V} {u:Value} {A:Around} {E:Value→Shared→Prop}
end
end L2
namespace Att
open PySem PySem.W PySem.Calls PyProof.Rows
theorem ints_of_wellAll {P:Params} {h:Heap}:∀ (ns:List Int) (vs:List Value),WellAll P h vs (ns.map WData.int)→IntsAre vs ns:=by
 intro ns
 induction ns with
 | nil =>
  intro vs w
  rw [List.map_nil] at w
  cases w
  exact .nil
 | cons n ns ih =>
  intro vs w
  rw [List.map_cons] at w
  cases w with
  | cons a b =>
   cases a
   exact .cons _ _ (ih _ b)
theorem script_of {l:OpenLaw} {n:Nat} (hn:l.most=some n) {P:Params} {h:Heap} {args:List WData} {vals:List Value}
  (hpre:l.row.toRowW.claim.pre args=true) (hwl:WellAll P h vals args) :
  ∃ a vs ns,vals=[Value.ref a]∧args=[WData.list (ns.map WData.int)]∧h.get? a=some { cls:=.type "list",data:=.seq vs.toArray }∧IntsAre vs ns∧ns.length≤n:=by
 have hsh:WShape.hasAll [] args [.list .int]=true:=(pre_splitW hpre).1
 have hc:l.pre.holds [] { args:=args }=true:=(pre_splitW hpre).2
 obtain ⟨d,r,rfl,h1,h2⟩:=hasAllW_cons hsh
 obtain rfl:=hasAllW_nil h2
 obtain ⟨xs,rfl,h3⟩:=hasW_list h1
 obtain ⟨ns,rfl⟩:=items_int h3
 have hlen:ns.length≤n:=by
  unfold OpenLaw.pre at hc
  have h4:(WTm.not (.lt (.lit (.int (n:Int))) (.len (.arg 0)))).holds [] { args:=[.list (ns.map .int)] }=true:=by
   have h4:=(holds_andW hc).1
   rw [hn] at h4
   exact h4
  have h5:=condW_of h4 (w_not (w_lt w_lit (w_len_list (w_arg rfl))))
  rw [List.length_map] at h5
  refine Nat.le_of_not_lt fun q=>?_
  have q':(n:Int)<((ns.length:Nat):Int):=by omega
  first
   | (rw [decide_eq_true q'] at h5;exact absurd h5 (by decide))
   | (simp at h5;omega)
 cases hwl with
 | cons w1 w2 =>
  cases w2
  cases w1 with
  | list ho hall=>exact ⟨_,_,ns,rfl,rfl,ho,ints_of_wellAll ns _ hall,hlen⟩
theorem post_true (l:OpenLaw) (args:List WData):l.row.toRowW.claim.post args (.bool true) args=true :=
 postW_of (r:=l.row.toRowW) (X:=(true == true))
  (show WShape.has [] (.bool true) .bool=true by first | rfl | decide | simp [WShape.has,WShape.arms,WShape.armsAll])
  (show (WTm.eq .res (.lit (.bool true))).value [] { args:=args,res:=some (.bool true),after:=args }=some (.bool (true == true)) from w_eq_bool (w_res rfl) w_lit) rfl
theorem attach_call {l:OpenLaw} {n:Nat} {q:Program} {loose:List Str} {XP:(Str→Option Value)→Heap→Prop} {YP:World→Heap→Prop} {d:DefRec}
  (hn:l.most=some n) (hdf:d.params.defaults=[])
  (call:∀ (w:World) (s₀ s₁:Shared) (mg mb:Str→Option Value) (fa:Addr) (o:Obj) (pm cd doc:Value) (a:Addr) (vs:List Value) (ns:List Int),
   Ground q loose [] XP w s₀ mg mb s₁.heap→YP w s₁.heap →
   s₁.heap.get? fa=some o→o.data=.func (docDef d.name d.params d.body d.scope pm cd doc)→s₁.heap.CodeRec cd d.name→mg d.name=some (.ref fa) →
   s₁.heap.get? a=some { cls:=.type "list",data:=.seq vs.toArray }→IntsAre vs ns→ns.length≤n→s₁.gens = #[] →
   codeAny (model l.prog w) callerA (.call (.ref fa) ⟨[.ref a],[]⟩) (fun r s'=>r=.ok (.ret (.bool true))∧OldK s₁.heap s'.heap∧s'.os=s₁.os∧AllBare s'.gens) s₁) :
  WalkO q loose XP YP l.row.toRowW d [] (fun f vs=>PySem.call f vs):=by
 intro w s₀ s₁ mg mb G Y fa o pm cd doc dV kV ho hd hcd hD hmg hg args vals as hpre hlay hrd hwl hlo
 obtain rfl:dV=.none:=Dflts.none hD hdf
 obtain rfl:kV=.none:=Dflts.noKw hD
 obtain ⟨a,vs,ns,rfl,rfl,hobj,hints,hlen⟩:=script_of hn hpre hwl
 refine enter_call (codeAny_mono (call w s₀ s₁ mg mb fa o pm cd doc a vs ns G Y ho (fd_plain hd) hcd hmg hobj hints hlen hg) fun r s' hq=>?_)
 obtain ⟨rfl,h2,h3,h4⟩:=hq
 exact ⟨.inl ⟨.bool true,.bool true,[],rfl,fun _=>rfl,.bool true,post_true l _,fun _=>⟨List.Pairwise.nil,fun _ hm=>(nomatch hm)⟩⟩,h2,h3,h4⟩
section
variable {prog:Program} {w:World} {A:Around} {E:Value→Shared→Prop} {s:Shared} {K:Frag}
def ledger (h:Heap) (L d:Addr):List (Addr×Obj):=(List.range h.objs.size).filterMap fun a=>if a=L∨a=d then none else (h.get? a).map fun o=>(a,o)
end
end Att
namespace L2
open PySem PySem.Spec PyProof.Rows
theorem vals_ints:∀ {vs:List Value} {ns:List Int},IntsAre vs ns→Vals (ns.map V.int) vs
 | _,_,.nil=>.nil
 | _,_,.cons n t h=>.cons ⟨t,rfl⟩ (vals_ints h)
def Only (H:Hp):Prop:=∀ b,H b=none∨∃ o xs,H b=some (.frz o (.lst xs))
theorem law_call {P:Program} {w:World} {K:PySem.W.Frag} {mg mb:Str→Option Value} {CX:CXT} {k:Nat} {fa a:Addr} {fd:FuncData} {x:Str} {sp:Sp} {s₁:Shared} {vs:List Value} {ns:List Int}
  (KX:K.In s₁.heap) (hns:s₁.heap.Ns mainGlobals mg) (hb:s₁.heap.Ns builtinsNs mb) (hbb:∀ x:Str,x ≠ "__name__"→mb x=bootBuiltins x) (hlim:s₁.heap.NoLimit) (hg:s₁.gens = #[])
  (ha:s₁.heap.get? a=some { cls:=.type "list",data:=.seq vs.toArray }) (hi:IntsAre vs ns) (hl:ns.length≤sizeLine) (hr:Room k callerA)
  (F:∀ base:Heap,K.In base→base.Ns mainGlobals mg→FnOk P w K mg base CX k fa fd [x] sp) (hbind:∀ (s:Shared) (u:Value),BindsTo s fd ⟨[u],[]⟩ [(x,u)])
  (hsp:∀ H:Hp,Only H→SqL K H a (ns.map V.int)→sp [.ref a] H (fun v _=>v=.bl true) fun _ _ _=>False)
  (hCX:∀ H e s',CX [] H s₁ (fun _ _ _=>False) e s'→False) :
  codeAny (model P w) callerA (.call (.ref fa) ⟨[.ref a],[]⟩) (fun r s'=>r=.ok (.ret (.bool true))∧OldK s₁.heap s'.heap∧s'.os=s₁.os∧AllBare s'.gens) s₁:=by
 have rv:=vals_ints hi
 have lenV:=hi.length
 -- from an abstract heap in which nothing but the script may be tracked
 have core:∀ H:Hp,Only H→SqL K H a (ns.map V.int)→HOk P w H s₁.heap→(∀ b,H b≠none→b=a)→(H a≠none→K.lookup a=none) →
   codeAny (model P w) callerA (.call (.ref fa) ⟨[.ref a],[]⟩) (fun r s'=>r=.ok (.ret (.bool true))∧OldK s₁.heap s'.heap∧s'.os=s₁.os∧AllBare s'.gens) s₁:=by
  intro H hO hS hok hA hK
  have base_of:∀ {b:Addr} {o:Obj},s₁.heap.get? b=some o→H b=none→(hidT s₁.heap H).get? b=some o:=fun e n=>hidT_get e n
  have noA:∀ {b:Addr} {o:Obj} {es:Array DictEntry} {ep:Nat},s₁.heap.get? b=some o→o.data=.dict es ep→H b=none:=fun {b o es ep} e d=>by
   cases q:H b with
   | none=>rfl
   | some u =>
    have e':b=a:=hA b (by rw [q];simp)
    subst e'
    rw [ha] at e;cases e
    have d':Data.seq vs.toArray _=Data.dict es ep:=d
    cases d'
  have nsK:∀ {b:Addr} {m:Str→Option Value},s₁.heap.Ns b m→(hidT s₁.heap H).Ns b m:=fun {b m} ⟨o,es,ep,e,d,r⟩=>⟨o,es,ep,base_of e (noA e d),d,r⟩
  have hKb:K.In (hidT s₁.heap H):=fun b o e=>base_of (KX b o e) (by
   cases q:H b with
   | none=>rfl
   | some u =>
    have e':b=a:=hA b (by rw [q];simp)
    subst e'
    rw [hK (by rw [q];simp)] at e;cases e)
  have hM:Mod K mg (hidT s₁.heap H):=⟨hKb,nsK hns,⟨mb,nsK hb,hbb⟩,let ⟨mc,h1,h2⟩:=hlim;⟨mc,nsK h1,h2⟩⟩
  have e0:Env0 P w K mg (hidT s₁.heap H) callerA [] s₁ H:=⟨rfl,hM,fun b o e=>of_hidT e,Nat.le_of_eq (hidT_size _ _),trivial,fun b hb=>absurd (show b∈([]:List Addr) from hb) (by simp),hok,.of_eq hg⟩
  refine codeAny_mono ((F _ hKb (nsK hns)).run callerA [] s₁ H ⟨[.ref a],[]⟩ [.ref a] [.ref a] _ _ hr e0 (hbind s₁ (.ref a)) (.cons rfl .nil) (hsp H hO hS)) fun r s' h=>?_
  cases r with
  | error e=>exact (hCX H e s' h).elim
  | ok fl =>
   cases fl with
   | next=>exact False.elim h
   | brk=>exact False.elim h
   | cont=>exact False.elim h
   | ret u =>
    obtain ⟨v,H',os,bare,un,hok',r',q⟩:=h
    have q':v=.bl true:=q
    subst q'
    obtain rfl:u=Value.bool true:=r'
    refine ⟨rfl,OldK.of_keep fun b o e=>?_,os,bare⟩
    cases q:H b with
    | none=>exact un.keep b o e q (by intro z;exact absurd (show b∈([]:List Addr) from z) (by simp)) (by simp)
    | some u =>
     rcases hO b with z | ⟨ob,xs,z⟩
     ·rw [q] at z;cases z
     ·have z2:=un.frzs b ob _ z
      obtain ⟨e1,_⟩:=hok b _ z
      obtain ⟨e2,_⟩:=hok' b _ z2
      rw [e] at e1;cases e1
      exact e2
 cases hk:K.lookup a with
 | some o =>
  -- the script is one of the module's own objects
  have e:=KX a o hk
  rw [ha] at e
  cases e
  refine core (fun _=>none) (fun _=>.inl rfl) (.inr ⟨_,vs.toArray,_,hk,rfl,rfl,rfl,by rw [List.size_toArray,lenV];exact hl,by simpa using rv⟩) (fun b u z=>by have z':(none:Option HO)=some u:=z;cases z') (fun b z=>absurd rfl z) fun z=>absurd rfl z
 | none =>
  refine core (fun b=>if b=a then some (.frz { cls:=.type "list",data:=.seq vs.toArray } (.lst (ns.map V.int))) else none) (fun b=>?_) (.inl (.inr ⟨{ cls:=.type "list",data:=.seq vs.toArray },if_pos rfl⟩)) (fun b u z=>?_) (fun b z=>?_) fun _=>hk
  ·by_cases hb:b=a
   ·exact .inr ⟨_,_,if_pos hb⟩
   ·exact .inl (if_neg hb)
  ·by_cases hb:b=a
   ·have z':=(if_pos hb).symm.trans z
    cases z'
    subst hb
    exact ⟨ha,by rw [List.length_map];exact hl,vs,_,rv,ha⟩
   ·have z':=(if_neg hb).symm.trans z
    cases z'
  ·by_cases hb:b=a
   ·exact hb
   ·exact absurd (if_neg hb) z
end L2
namespace L2
open PySem PySem.Spec PyProof.Rows
theorem walk_of {l:PySem.W.OpenLaw} {n k:Nat} {q:Program} {loose:List Str} {XP:(Str→Option Value)→Heap→Prop} {YP:World→Heap→Prop} {d:DefRec} {K:Params→PySem.W.Frag} {CX:World→CXT} {sp:World→Sp} {x:Str}
  (hn:l.most=some n) (hn2:n≤sizeLine) (hdf:d.params.defaults=[]) (hr:Room k callerA)
  (hY:∀ (w:World) (h:Heap),YP w h→(K w.params).In h)
  (F:∀ (w:World) (mg:Str→Option Value) (fa:Addr) (h:Heap),(K w.params).In h→h.Ns mainGlobals mg→mg d.name=some (.ref fa) →
   ∃ fd:FuncData,(∀ (s:Shared) (u:Value),BindsTo s fd ⟨[u],[]⟩ [(x,u)]) ∧
    ∀ base:Heap,(K w.params).In base→base.Ns mainGlobals mg→FnOk l.prog w (K w.params) mg base (CX w) k fa fd [x] (sp w))
  (hsp:∀ (w:World) (H:Hp) (a:Addr) (ns:List Int),ns.length≤n→Only H→SqL (K w.params) H a (ns.map V.int)→sp w [.ref a] H (fun v _=>v=.bl true) fun _ _ _=>False)
  (hCX:∀ (w:World) (H:Hp) (s:Shared) (e:Value) (s':Shared),CX w [] H s (fun _ _ _=>False) e s'→False) :
  PySem.W.WalkO q loose XP YP l.row.toRowW d [] (fun f vs=>PySem.call f vs):=by
 refine Att.attach_call hn hdf fun w s₀ s₁ mg mb fa o pm cd doc a vs ns G Y ho hd hcd hmg hobj hints hlen hg=>?_
 have KX:=hY w _ Y
 obtain ⟨fd,hb,hF⟩:=F w mg fa _ KX G.T.g hmg
 exact law_call KX G.T.g G.T.b G.T.builtins G.T.nolimit hg hobj hints (Nat.le_trans hlen hn2) hr hF hb (fun H hO hS=>hsp w H a ns hlen hO hS) fun H e s'=>hCX w H s₁ e s'
theorem TX {l:PySem.W.OpenLaw} {n k:Nat} {q:Program} {loose:List Str} {XP:(Str→Option Value)→Heap→Prop} {YP:World→Heap→Prop} {d:DefRec} {K:Params→PySem.W.Frag} {CX:CXT} {sp:PySem.W.Frag→Sp} {x:Str}
  (hn:l.most=some n) (hn2:n≤sizeLine) (hdf:d.params.defaults=[]) (hr:Room k callerA)
  (hY:∀ (w:World) (h:Heap),YP w h→(K w.params).In h)
  (F:∀ (w:World) (mg:Str→Option Value) (fa:Addr) (h:Heap),(K w.params).In h→h.Ns mainGlobals mg→mg d.name=some (.ref fa) →
   ∃ fd:FuncData,(∀ (s:Shared) (u:Value),BindsTo s fd ⟨[u],[]⟩ [(x,u)]) ∧
    ∀ base:Heap,(K w.params).In base→base.Ns mainGlobals mg→FnOk l.prog w (K w.params) mg base CX k fa fd [x] (sp (K w.params)))
  (hsp:∀ (K:PySem.W.Frag) (H:Hp) (a:Addr) (ns:List Int),ns.length≤n→Only H→SqL K H a (ns.map V.int)→sp K [.ref a] H (fun v _=>v=.bl true) fun _ _ _=>False)
  (hCX:∀ (H:Hp) (s:Shared) (e:Value) (s':Shared),CX [] H s (fun _ _ _=>False) e s'→False) :
  PySem.W.WalkO q loose XP YP l.row.toRowW d [] (fun f vs=>PySem.call f vs) :=
 walk_of (K:=K) (CX:=fun _=>CX) (sp:=fun w=>sp (K w.params)) hn hn2 hdf hr hY F (fun w H a ns h1 h2 h3=>hsp (K w.params) H a ns h1 h2 h3) fun _ H s e s'=>hCX H s e s'
end L2
namespace L2
open PySem PySem.Spec PyProof.Rows
def inClass (s:Stmt) (j:Nat):Stmt:=match s with
 | .ClassDef _ _ _ body _ _ _ _ _ _ _=>body.getD j (.Pass ⟨0,0,0,0⟩)
 | _=>.Pass ⟨0,0,0,0⟩
def defArgs (s:Stmt):Arguments:=match s with
 | .FunctionDef _ a _ _ _ _ _ _ _ _=>a
 | _=>{ posonlyargs:=[],args:=[],vararg:=none,kwonlyargs:=[],kw_defaults:=[],kwarg:=none,defaults:=[] }
def defBody (s:Stmt):List Stmt:=match s with
 | .FunctionDef _ _ b _ _ _ _ _ _ _=>b
 | _=>[]
def defScope (s:Stmt):Scope:=match s with
 | .FunctionDef _ _ _ _ _ _ sc _ _ _=>sc
 | _=>{ kind:=.function,names:=[],isGenerator:=false,isCoroutine:=false }
abbrev CX0:CXT:=fun _ _ _ _ _ _=>False
abbrev E0:XK:=fun _ _ _=>False
theorem pass0 {X:Cx}:Passes CX0 X E0:=fun _ _ _ _ _ _ _ h=>h.elim
structure Fun (K:PySem.W.Frag) (x qual:Str) (st:Stmt) (f:Addr) (fd:FuncData):Prop where
 ex:∃ (oc:Value) (od:Option Addr) (kV doc pm:Value) (an:Option Addr) (cdv ct:Value) (osl:Array (Option Value)),
  fd=PySem.W.fnOf x qual (defArgs st) (defBody st) (defScope st) .none kV doc pm an cdv ct∧K.lookup f=some ⟨oc,od,.func fd,osl⟩∧PySem.W.codeIn K cdv qual=true
 kp:PySem.W.keepIn K (.ref f)=true
section
variable {P:Program} {w:World} {K:PySem.W.Frag} {mg:Str→Option Value} {base:Heap}
theorem Fun.ok {x qual:Str} {st:Stmt} {f:Addr} {fd:FuncData} {N ps:List Str} {k:Nat} {sp:Sp} (F:Fun K x qual st f fd) (S:FnScope N ps (defScope st)) (len:∀ vs H Q E,sp vs H Q E→vs.length=ps.length)
  (hbody:∀ (cdv:Value) (A:Around) (outer:List Env) (s:Shared) (H:Hp) (vs:List V) (Q:VK) (E:XK),Room k (A.deeper (envOfC qual (defScope st) s.heap.objs.size f cdv))→sp vs H Q E →
   ∃ t,PSs (cxOf CX0 P w K mg base N qual (defScope st) f cdv A outer s H E).nox (defBody st) t∧t { nx:=fun _ H'=>Q .non H',rt:=Q } (start N vs) H):FnOk P w K mg base CX0 (k+1) f fd ps sp:=by
 obtain ⟨oc,od,kV,doc,pm,an,cdv,ct,osl,rfl,lk,hcd⟩:=F.ex
 refine fn_of lk hcd S len fun A outer s H vs Q E hr hsp=>?_
 obtain ⟨t,h,q⟩:=hbody cdv A outer s H vs Q E hr hsp
 exact ⟨t,h.nox,q⟩
theorem Fun.binds {x qual:Str} {st:Stmt} {f:Addr} {fd:FuncData} {ps:List Str} (F:Fun K x qual st f fd)
  (h:∀ (kV doc pm:Value) (an:Option Addr) (cdv ct:Value) (us:List Value),us.length=ps.length→bindArgs (PySem.W.fnOf x qual (defArgs st) (defBody st) (defScope st) .none kV doc pm an cdv ct) ⟨us,[]⟩=pure (ps.zip us)):Binds K fd ps []:=by
 obtain ⟨oc,od,kV,doc,pm,an,cdv,ct,osl,rfl,lk,hcd⟩:=F.ex
 exact .all (h kV doc pm an cdv ct)
theorem fun_mk {x qual:Str} {st:Stmt} {f:Addr} {oc:Value} {od an:Option Addr} {osl:Array (Option Value)} {kV doc pm cdv ct:Value} (l:K.lookup f=some ⟨oc,od,.func (PySem.W.fnOf x qual (defArgs st) (defBody st) (defScope st) .none kV doc pm an cdv ct),osl⟩)
  (c:PySem.W.codeIn K cdv qual=true) (k:PySem.W.keepIn K (.ref f)=true):Fun K x qual st f (PySem.W.fnOf x qual (defArgs st) (defBody st) (defScope st) .none kV doc pm an cdv ct):=⟨⟨oc,od,kV,doc,pm,an,cdv,ct,osl,rfl,l,c⟩,k⟩
end
theorem hu_of {A:Around} {k:Nat} (hr:Room k A):A.units+1<cLine:=Nat.lt_of_le_of_lt (Nat.add_le_add_left (by decide:1≤64) _) hr.units
section
variable {X:Cx}
theorem call_lenD:CallR X (.builtin "len") (fun xs H Q=>∃ a kvs,xs=[V.ref a]∧H a=some (.dK kvs)∧Q (.int kvs.length) H):=by
 intro pins s σ H xs us Q I r h
 obtain ⟨a,kvs,rfl,ha,q⟩:=h
 obtain ⟨u,rfl,ru⟩:=vals1 r
 cases ru
 exact d_len I (.inl ha) fun t s' I'=>⟨.int kvs.length,H,I',⟨t,rfl⟩,q⟩
end
theorem ite2 {c A B:Prop} [Decidable c] (h1:c→A) (h2:¬ c→B):if c then A else B:=by
 by_cases h:c
 ·rw [if_pos h]
  exact h1 h
 ·rw [if_neg h]
  exact h2 h
def Same (H H':Hp):Prop:=∀ b o,H b=some o→H' b=some o
theorem Same.refl (H:Hp):Same H H:=fun _ _ h=>h
theorem Same.trans {H H1 H2:Hp} (a:Same H H1) (b:Same H1 H2):Same H H2:=fun c o h=>b c o (a c o h)
theorem Same.free {H H':Hp} (e:Same H H') {l:Addr} (h:H' l=Option.none):H l=Option.none:=by
 cases q:H l with
 | none=>rfl
 | some o =>
  rw [e l o q] at h
  cases h
theorem Same.seq {K:PySem.W.Frag} {H H':Hp} {a:Addr} {xs:List V} (e:Same H H') (h:SqL K H a xs):SqL K H' a xs:=by
 rcases h with (h | ⟨o,h⟩) | h
 ·exact .inl (.inl (e _ _ h))
 ·exact .inl (.inr ⟨o,e _ _ h⟩)
 ·exact .inr h
section
variable {κ:Type} [DecidableEq κ]
theorem nd_snoc:∀ {l:List κ} {k:κ},l.Nodup→¬ k∈l→(l++[k]).Nodup
 | [],k,_,_=>by simp
 | a::r,k,h,hk=>by
  obtain ⟨h1,h2⟩:=List.nodup_cons.mp h
  show (a::(r++[k])).Nodup
  refine List.nodup_cons.mpr ⟨fun m=>?_,nd_snoc h2 fun m=>hk (List.mem_cons.mpr (Or.inr m))⟩
  rcases List.mem_append.mp m with q | q
  ·exact h1 q
  ·exact hk (List.mem_cons.mpr (Or.inl (List.mem_singleton.mp q).symm))
theorem dropK_pos {p:κ×V} {r:List (κ×V)} {k:κ} (e:p.1=k):dropK (p::r) k=dropK r k:=by
 unfold dropK
 rw [List.filter_cons,if_neg (by simp [e])]
theorem dropK_neg {p:κ×V} {r:List (κ×V)} {k:κ} (e:¬ p.1=k):dropK (p::r) k=p::dropK r k:=by
 unfold dropK
 rw [List.filter_cons,if_pos (by simp [e])]
end
end L2
namespace L2
open PySem PySem.Spec PyProof.Rows
theorem fQ:bootBuiltins "isinstance" = some (.builtin "isinstance"):=by rfl
theorem TY:bootBuiltins "sum" = some (.builtin "sum"):=by rfl
theorem Lj:bootBuiltins "min" = some (.builtin "min"):=by rfl
theorem FJ:bootBuiltins "sorted" = some (.builtin "sorted"):=by rfl
theorem T3:bootBuiltins "int" = some (.type "int"):=by rfl
theorem Xu:bootBuiltins "bool" = some (.type "bool"):=by rfl
theorem aaf:bootBuiltins "str" = some (.type "str"):=by rfl
theorem pR:bootBuiltins "list" = some (.type "list"):=by rfl
theorem aag:bootBuiltins "set" = some (.type "set"):=by rfl
def tyN (H:Hp):V→Option String
 | .non=>some "NoneType"
 | .bl _=>some "bool"
 | .int _=>some "int"
 | .str _=>some "str"
 | .ref a=>match H a with
  | some (.lst _)=>some "list"
  | some (.frz _ (.lst _))=>some "list"
  | some (.tup _)=>some "tuple"
  | some (.dK _)=>some "dict"
  | _=>none
 | _=>none
theorem aai {K:PySem.W.Frag} {H:Hp} {x:V} {t:String} (h:tyN H x=some t):TyOf K H x (.type t):=by
 unfold tyN at h
 split at h
 ·cases h;exact .non
 ·cases h;exact .bl _
 ·cases h;exact .int _
 ·cases h;exact .str _
 ·split at h
  ·cases h;exact .lst (by assumption)
  ·cases h;exact .frz (by assumption)
  ·cases h;exact .tup (by assumption)
  ·cases h;exact .dK (by assumption)
  ·cases h
 ·cases h
def T4 (t c:String):Option Bool :=
 match c with
 | "int"=>if t = "int" then some true else if t = "bool" then some true else if t = "str" then some false else if t = "list" then some false else if t = "tuple" then some false else if t = "NoneType" then some false else none
 | "bool"=>if t = "int" then some false else if t = "bool" then some true else if t = "str" then some false else if t = "list" then some false else if t = "tuple" then some false else if t = "NoneType" then some false else none
 | "str"=>if t = "int" then some false else if t = "bool" then some false else if t = "str" then some true else if t = "list" then some false else if t = "tuple" then some false else if t = "NoneType" then some false else none
 | "list"=>if t = "int" then some false else if t = "bool" then some false else if t = "str" then some false else if t = "list" then some true else if t = "tuple" then some false else if t = "NoneType" then some false else none
 | "tuple"=>if t = "int" then some false else if t = "bool" then some false else if t = "str" then some false else if t = "list" then some false else if t = "tuple" then some true else if t = "NoneType" then some false else none
 | _=>none
theorem T6 {K:PySem.W.Frag} {t c:String} {b:Bool} (h:T4 t c=some b):PySem.W.kitOne K (.type t) (.type c)=some b:=by
  unfold T4 at h
  split at h
  all_goals first
    | (cases h;done)
    | (repeat' split at h
       all_goals first
        | (cases h;subst_vars;rfl)
        | (cases h))
section
variable {X:Cx}
theorem T9:CallR X (.builtin "isinstance") (fun xs H Q=>∃ x t c b,xs=[x,.ty c]∧tyN H x=some t∧T4 t c=some b∧Q (.bl b) H):=by
 intro pins s σ H xs us Q I r h
 obtain ⟨x,t,c,b,rfl,h1,h2,q⟩:=h
 obtain ⟨u,u2,rfl,r1,r2⟩:=vals2 r
 obtain rfl:u2=Value.type c:=r2
 exact Rp I r1 (aai h1) (T6 h2) fun tk=>⟨.bl b,H,I.tok _,rfl,q⟩
theorem abA {x:Str} {n:String} {pos:Pos} (hm:X.mg x=none) (hv:bootBuiltins x=some (.type n)) (hg:Gl X x:=by rfl) (hn:x ≠ "__name__":=by decide) (hd:(x == ("__debug__":Str))=false:=by decide):PE X (.Name x pos) (tC (.ty n)) :=
 Xd hg hm hv rfl hn hd
def GI (mg:Str→Option Value) (x:Str) (i:Int):Prop:=∃ t,mg x=some (.int i t)
theorem abB {x:Str} {i:Int} {pos:Pos} (h:GI X.mg x i) (hg:Gl X x:=by rfl) (hd:(x == ("__debug__":Str))=false:=by decide):PE X (.Name x pos) (tC (.int i)):=by
 obtain ⟨t,e⟩:=h
 exact Xc hg e ⟨t,rfl⟩ hd
def Good (P:Program) (w:World) (K:PySem.W.Frag) (mg:Str→Option Value) (base:Heap) (CX:CXT) (k:Nat) (x:Str) (ps:List Str) (sp:Sp):Prop :=
 ∃ f fd,FnOk P w K mg base CX k f fd ps sp∧mg x=some (.ref f)∧PySem.W.keepIn K (.ref f)=true∧Binds K fd ps []
theorem Ua {CX:CXT} {k:Nat} {x:Str} {ps:List Str} {sp:Sp} {E:XK} {e:Expr} {es:List Expr} {t:TA} {p pos:Pos} (g:Good X.prog X.w X.K X.mg X.base CX k x ps sp) (hr:Room k X.A) (hx:Passes CX X E)
  (ha:PA X (e::es) t) (hg:Gl X x:=by rfl) (hdb:(x == ("__debug__":Str))=false:=by decide) (he:starEach (e::es) X.env=(false,eval e X.env)::starEach es X.env:=by rfl) (hpl:(backTo pos (starEach es X.env)).any (·.1)=false:=by rfl) :
  PE X (.Call (.Name x p) (e::es) [] pos) (tCall sp [] E t):=by
 obtain ⟨f,fd,F,hm,hk,hb⟩:=g
 exact pe_call F hr hg hm hk hb .nil hx ha hdb he hpl
def aM (K:PySem.W.Frag) (mg:Str→Option Value) (x:Str) (st:Stmt) (ps:List Str):Prop:=∃ f fd,Fun K x x st f fd∧mg x=some (.ref f)∧Binds K fd ps []
theorem aM.good {P:Program} {w:World} {K:PySem.W.Frag} {mg:Str→Option Value} {base:Heap} {x:Str} {st:Stmt} {N ps:List Str} {k:Nat} {sp:Sp} (F:aM K mg x st ps) (S:FnScope N ps (defScope st)) (len:∀ vs H Q E,sp vs H Q E→vs.length=ps.length)
  (hbody:∀ (f:Addr) (cdv:Value) (A:Around) (outer:List Env) (s:Shared) (H:Hp) (vs:List V) (Q:VK) (E:XK),Room k (A.deeper (envOfC x (defScope st) s.heap.objs.size f cdv))→sp vs H Q E →
   ∃ t,PSs (cxOf CX0 P w K mg base N x (defScope st) f cdv A outer s H E).nox (defBody st) t∧t { nx:=fun _ H'=>Q .non H',rt:=Q } (start N vs) H):Good P w K mg base CX0 (k+1) x ps sp:=by
 obtain ⟨f,fd,F,hm,hb⟩:=F
 exact ⟨f,fd,F.ok S len (hbody f),hm,F.kp,hb⟩
def YM (i j:Int):Prop:=0<j∧j.natAbs.log2<9000
theorem eG:OpR X (binaryOp .FloorDiv) (rI YM fun i j=>.int (i / j)):=opI fun i j _ _ _ _ _ hc q=>by
 have h:i.fdiv j=i / j:=Int.fdiv_eq_ediv_of_nonneg _ (Int.le_of_lt hc.1)
 exact floordiv_int (Int.ne_of_gt hc.1) (by rw [h];exact q) (.inl (PyProof.noPylong_of_log2 hc.2))
end
def bA (K:PySem.W.Frag) (H:Hp) (a:Addr) (xs:List V):Prop:=SqL K H a xs∨SqT K H a xs
end L2
namespace L2
open PySem PySem.Spec PyProof.Rows
section
variable {X:Cx}
def aaj (K:PySem.W.Frag):R2:=fun x y H Q=>∃ p xs i v,x=.ref p∧y=.int i∧bA K H p xs∧atI xs i=some v∧Q v H
theorem Od (K:PySem.W.Frag) (p:Addr) (i:Int) (H:Hp) (Q:VK):aaj K (.ref p) (.int i) H Q=∃ xs,bA K H p xs∧∃ v,atI xs i=some v∧Q v H:=by
 refine propext ⟨fun h=>?_,fun h=>?_⟩
 ·obtain ⟨_,xs,_,v,e1,e2,h1,h2,q⟩:=h
  cases e1;cases e2
  exact ⟨xs,h1,v,h2,q⟩
 ·obtain ⟨xs,h1,v,h2,q⟩:=h
  exact ⟨p,xs,i,v,rfl,rfl,h1,h2,q⟩
theorem bh:IxR X (aaj X.K):=by
 intro value slice pins s σ H x y v u Q I rx ry q hs
 obtain ⟨p,xs,i,z,e1,e2,h | h,e3,q⟩:=q
 ·exact ix_list value slice pins s σ H x y v u Q I rx ry ⟨p,xs,i,z,e1,e2,h,e3,q⟩ hs
 ·exact Z6 value slice pins s σ H x y v u Q I rx ry ⟨p,xs,i,z,e1,e2,h,e3,q⟩ hs
def YQ (K:PySem.W.Frag):List V→Hp→VK→Prop:=fun xs H Q=>∃ p ys,xs=[.ref p]∧bA K H p ys∧Q (.int ys.length) H
theorem Jk (K:PySem.W.Frag) (p:Addr) (H:Hp) (Q:VK):YQ K [.ref p] H Q=∃ ys,bA K H p ys∧Q (.int ys.length) H:=by
 refine propext ⟨fun h=>?_,fun h=>?_⟩
 ·obtain ⟨_,ys,e,h1,q⟩:=h
  cases e
  exact ⟨ys,h1,q⟩
 ·obtain ⟨ys,h1,q⟩:=h
  exact ⟨p,ys,rfl,h1,q⟩
theorem aH:CallR X (.builtin "len") (YQ X.K):=call_len_seq
def Ub (K:PySem.W.Frag):List V→Hp→VK→Prop:=fun xs H Q=>∃ p ys,xs=[.ref p]∧bA K H p ys∧∀ l,H l=none→Q (.ref l) (upd H l (.lst ys))
theorem FN (K:PySem.W.Frag) (p:Addr) (H:Hp) (Q:VK):Ub K [.ref p] H Q=∃ ys,bA K H p ys∧∀ l,H l=none→Q (.ref l) (upd H l (.lst ys)):=by
 refine propext ⟨fun h=>?_,fun h=>?_⟩
 ·obtain ⟨_,ys,e,h1,q⟩:=h
  cases e
  exact ⟨ys,h1,q⟩
 ·obtain ⟨ys,h1,q⟩:=h
  exact ⟨p,ys,rfl,h1,q⟩
theorem pU:CallR X (.type "list") (Ub X.K):=G6
def Uc (H:Hp) (x:V) (c:String):Option Bool:=(tyN H x).bind fun t=>T4 t c
def Rr:List V→Hp→VK→Prop:=fun xs H Q=>∃ x t c b,xs=[x,.ty c]∧tyN H x=some t∧T4 t c=some b∧Q (.bl b) H
theorem oY:CallR X (.builtin "isinstance") Rr:=T9
theorem Bl (x:V) (c:String) (H:Hp) (Q:VK):Rr [x,.ty c] H Q=∃ b,Uc H x c=some b∧Q (.bl b) H:=by
 refine propext ⟨fun h=>?_,fun h=>?_⟩
 ·obtain ⟨x',t,c',b,e,h1,h2,q⟩:=h
  cases e
  exact ⟨b,by unfold Uc;rw [h1];exact h2,q⟩
 ·obtain ⟨b,h1,q⟩:=h
  unfold Uc at h1
  cases e:tyN H x with
  | none=>rw [e] at h1;cases h1
  | some t=>rw [e] at h1;exact ⟨x,t,c,b,rfl,e,h1,q⟩
theorem yL {x:V} {c:String} {b:Bool} {H:Hp} {Q:VK} (h:Uc H x c=some b):(∃ b',Uc H x c=some b'∧Q (.bl b') H)=Q (.bl b) H:=by
 refine propext ⟨fun ⟨_,e,q⟩=>?_,fun q=>⟨b,h,q⟩⟩
 rw [h] at e;cases e;exact q
theorem Jl (H:Hp) (i:Int):Uc H (.int i) "int" = some true:=by rfl
theorem G8 (H:Hp) (i:Int):Uc H (.int i) "bool" = some false:=by rfl
theorem Jm (H:Hp) (x:Str):Uc H (.str x) "str" = some true:=by rfl
theorem Oe (i:Int) (H:Hp) (Q:VK):Rr [.int i,.ty "int"] H Q=Q (.bl true) H:=by rw [Bl,yL (Jl H i)]
theorem Og (i:Int) (H:Hp) (Q:VK):Rr [.int i,.ty "bool"] H Q=Q (.bl false) H:=by rw [Bl,yL (G8 H i)]
theorem Oh (x:Str) (H:Hp) (Q:VK):Rr [.str x,.ty "str"] H Q=Q (.bl true) H:=by rw [Bl,yL (Jm H x)]
theorem Jo (a:Addr) (c:String) (H:Hp) (Q:VK):Rr [.ref a,.ty c] H Q=∃ b,Uc H (.ref a) c=some b∧Q (.bl b) H:=Bl _ _ _ _
theorem Oi {H:Hp} {a:Addr} {xs:List V} (h:H a=some (.lst xs)):Uc H (.ref a) "list" = some true:=by
 have e:tyN H (.ref a)=some "list":=by show (match H a with | some (.lst _)=>some "list" | some (.frz _ (.lst _))=>some "list" | some (.tup _)=>some "tuple" | some (.dK _)=>some "dict" | _=>none)=some "list";rw [h]
 unfold Uc;rw [e];rfl
theorem Jp (K:PySem.W.Frag) (p:Addr) (H:Hp):Xl K "list" (.ref p) H=∃ xs,SqL K H p xs:=by
 unfold Xl
 refine propext ⟨fun h=>?_,fun h=>.inl ⟨rfl,h⟩⟩
 rcases h with ⟨_,h⟩ | ⟨e,_⟩ | ⟨e,_⟩ | ⟨e,_⟩
 ·exact h
 ·exact absurd e (by decide)
 ·exact absurd e (by decide)
 ·exact absurd e (by decide)
theorem Oj (K:PySem.W.Frag) (x:Str) (H:Hp):Xl K "str" (.str x) H=True:=propext ⟨fun _=>trivial,fun _=>rfl⟩
theorem BJ (l:Addr) (y:V) (H:Hp) (Q:VK):Oa (.ref l) [y] H Q=∃ xs,H l=some (.lst xs)∧xs.length<sizeLine∧Q .non (upd H l (.lst (xs++[y]))):=by
 refine propext ⟨fun h=>?_,fun h=>?_⟩
 ·obtain ⟨_,xs,_,e1,e2,h⟩:=h
  cases e1;cases e2
  exact ⟨xs,h⟩
 ·obtain ⟨xs,h⟩:=h
  exact ⟨l,xs,y,rfl,rfl,h⟩
theorem zW (l:Addr) (H:Hp) (Q:VK):Ji (.ref l) [] H Q=∃ xs,H l=some (.lst xs)∧Q .non (upd H l (.lst xs.reverse)):=by
 refine propext ⟨fun h=>?_,fun h=>?_⟩
 ·obtain ⟨_,xs,e1,_,h⟩:=h
  cases e1
  exact ⟨xs,h⟩
 ·obtain ⟨xs,h⟩:=h
  exact ⟨l,xs,rfl,rfl,h⟩
def YS:List V→Hp→VK→Prop:=fun xs H Q=>∃ i j,xs=[.int i,.int j]∧Q (.int (if j<i then j else i)) H
theorem Jq (i j:Int) (H:Hp) (Q:VK):YS [.int i,.int j] H Q=Q (.int (if j<i then j else i)) H:=by
 refine propext ⟨fun h=>?_,fun h=>⟨i,j,rfl,h⟩⟩
 obtain ⟨_,_,e,h⟩:=h
 cases e
 exact h
theorem Lk (hc:X.calm=true):CallR X (.builtin "min") YS:=Rn hc
def Ud:List V→Hp→VK→Prop:=fun xs H Q=>(∃ i,xs=[.int i]∧Q (.int i) H)∨∃ k,xs=[.bl k]∧Q (.int (if k then 1 else 0)) H
theorem FQ (i:Int) (H:Hp) (Q:VK):Ud [.int i] H Q=Q (.int i) H:=by
 refine propext ⟨fun h=>?_,fun h=>.inl ⟨i,rfl,h⟩⟩
 rcases h with ⟨_,e,h⟩ | ⟨_,e,h⟩
 ·cases e;exact h
 ·cases e
theorem Jr (k:Bool) (H:Hp) (Q:VK):Ud [.bl k] H Q=Q (.int (if k then 1 else 0)) H:=by
 refine propext ⟨fun h=>?_,fun h=>.inr ⟨k,rfl,h⟩⟩
 rcases h with ⟨_,e,h⟩ | ⟨_,e,h⟩
 ·cases e
 ·cases e;exact h
theorem Rt:CallR X (.type "int") Ud:=Ro
theorem Ue (CX:CXT) (P:Program) (w:World) (K:PySem.W.Frag) (mg:Str→Option Value) (base:Heap) (N:List Str) (qual:Str) (scope:Scope) (f:Addr) (cd:Value) (A:Around) (outer:List Env) (s:Shared) (H:Hp) (E:XK) :
  (cxOf CX P w K mg base N qual scope f cd A outer s H E).K=K:=rfl
theorem FW:SlR X (Xk X.K):=N6
variable {tg:Expr}
def iSq (K:PySem.W.Frag) (tl:TE):TI:=fun σ H R=>tl σ H fun x H1=>∃ a,x=.ref a∧(((∃ xs,SqL K H1 a xs)∧R (Itl K a) H1)∨((∃ xs,SqT K H1 a xs)∧R (K1 K a) H1))
theorem abC {l:Expr} {tl:TE} (hl:PE X l tl):PI X tg l (iSq X.K tl):=by
 intro pins s σ H R I h
 refine thn (hl pins s σ H _ I h) fun v s1 ⟨x,H1,I1,r1,q1⟩=>?_
 obtain ⟨a,e,q1⟩:=q1
 subst e
 cases r1
 rcases q1 with ⟨⟨xs,hq⟩,q⟩ | ⟨⟨xs,hq⟩,q⟩
 ·obtain ⟨its,rv,p,hz⟩:=I1.list hq
  refine wpAny_pyIter_list p.isList ?_
  refine ⟨s1.heap.objs.size,[s1.heap.objs.size],_,_,H1,rfl,I1.kept (t':=s1.toks) fun b o e=>Heap.get?_push_of_some _ e,turn_list a _,⟨_,Heap.get?_push_size _ rfl,rfl,rfl⟩,fun b hb=>?_,q⟩
  have e:b=s1.heap.objs.size:=by simpa using hb
  subst e
  exact I1.fpOk (Nat.le_refl _) (I1.hok.fresh (Nat.le_refl _))
 ·obtain ⟨its,rv,p,hz⟩:=I1.tuple hq
  refine wpAny_pyIter_tuple (show s1.heap.IsTuple a its.toArray from p) ?_
  refine ⟨s1.heap.objs.size,[s1.heap.objs.size],_,_,H1,rfl,I1.kept (t':=s1.toks) fun b o e=>Heap.get?_push_of_some _ e,K8 a _,⟨_,Heap.get?_push_size _ rfl,rfl,rfl⟩,fun b hb=>?_,q⟩
  have e:b=s1.heap.objs.size:=by simpa using hb
  subst e
  exact I1.fpOk (Nat.le_refl _) (I1.hok.fresh (Nat.le_refl _))
end
theorem Same.Em {K:PySem.W.Frag} {H H':Hp} {a:Addr} {xs:List V} (e:Same H H') (h:SqT K H a xs):SqT K H' a xs:=by
 rcases h with (h | ⟨o,h⟩) | h
 ·exact .inl (.inl (e _ _ h))
 ·exact .inl (.inr ⟨o,e _ _ h⟩)
 ·exact .inr h
theorem Same.sq {K:PySem.W.Frag} {H H':Hp} {a:Addr} {xs:List V} (e:Same H H') (h:bA K H a xs):bA K H' a xs:=h.elim (fun h=>.inl (e.seq h)) fun h=>.inr (e.Em h)
theorem Same.new {H:Hp} {a:Addr} {o:HO} (h:H a=none):Same H (upd H a o):=fun b u e=>by rw [upd_ne (ne_of_none e h)];exact e
theorem bA.of {K:PySem.W.Frag} {H:Hp} {a:Addr} {xs:List V} (h:H a=some (.lst xs)):bA K H a xs:=.inl (SqL.of h)
theorem bA.ofT {K:PySem.W.Frag} {H:Hp} {a:Addr} {xs:List V} (h:H a=some (.tup xs)):bA K H a xs:=.inr (SqT.of h)
theorem aak {K:PySem.W.Frag} {a:Addr} {xs:List V} {g:TG} {tb:TS} {D:Ends} {σ:St} {H:Hp} (hS:bA K H a xs) (Pv:Nat→St→Hp→Prop) (h0:Pv 0 σ H) (hl:∀ i σ H2,i≤xs.length→Pv i σ H2→Same H H2)
  (hs:∀ i x σ H,xs[i]? = some x→Pv i σ H→g x σ H fun σ2 H2=>tb { D with nx:=Pv (i+1),ct:=Pv (i+1),bk:=D.nx } σ2 H2) (hd:∀ σ H,Pv xs.length σ H→D.nx σ H) :
  ((∃ xs,SqL K H a xs)∧∃ W:Nat→Nat→St→Hp→Prop,(∃ m,W 0 m σ H)∧∀ i m σ H,W i m σ H →
   ((Itl K a).stop i H∧D.nx σ H)∨((Itl K a).go i H∧∃ N:St→Hp→Prop,(∀ σ' H',N σ' H'→∃ m',m'<m∧W (i+1) m' σ' H')∧∀ x H',(Itl K a).yld i H x H'→g x σ H' fun σ2 H2=>tb { D with nx:=N,ct:=N,bk:=D.nx } σ2 H2)) ∨
  ((∃ xs,SqT K H a xs)∧∃ W:Nat→Nat→St→Hp→Prop,(∃ m,W 0 m σ H)∧∀ i m σ H,W i m σ H →
   ((K1 K a).stop i H∧D.nx σ H)∨((K1 K a).go i H∧∃ N:St→Hp→Prop,(∀ σ' H',N σ' H'→∃ m',m'<m∧W (i+1) m' σ' H')∧∀ x H',(K1 K a).yld i H x H'→g x σ H' fun σ2 H2=>tb { D with nx:=N,ct:=N,bk:=D.nx } σ2 H2)):=by
 rcases hS with h | h
 ·exact .inl ⟨⟨xs,h⟩,for_list Pv h0 (fun i σ H2 hi p=>(hl i σ H2 hi p).seq h) hs hd⟩
 ·exact .inr ⟨⟨xs,h⟩,G3 Pv h0 (fun i σ H2 hi p=>(hl i σ H2 hi p).Em h) hs hd⟩
def nH (lo:Int) (n:Nat) (g:TG) (tb:TS) (D:Ends) (σ:St) (H:Hp):Prop:=∃ W:Nat→Nat→St→Hp→Prop,(∃ m,W 0 m σ H)∧∀ i m σ H,W i m σ H →
 ((Ri lo n).stop i H∧D.nx σ H)∨((Ri lo n).go i H∧∃ N:St→Hp→Prop,(∀ σ' H',N σ' H'→∃ m',m'<m∧W (i+1) m' σ' H')∧∀ x H',(Ri lo n).yld i H x H'→g x σ H' fun σ2 H2=>tb { D with nx:=N,ct:=N,bk:=D.nx } σ2 H2)
theorem nH.by {lo:Int} {n:Nat} {g:TG} {tb:TS} {D:Ends} {σ:St} {H:Hp} (Pv:Nat→St→Hp→Prop) (h0:Pv 0 σ H)
  (hs:∀ i σ H,i<n→Pv i σ H→g (.int (lo+i)) σ H fun σ2 H2=>tb { D with nx:=Pv (i+1),ct:=Pv (i+1),bk:=D.nx } σ2 H2) (hd:∀ σ H,Pv n σ H→D.nx σ H):nH lo n g tb D σ H:=Rm Pv h0 hs hd
def pW (K:PySem.W.Frag) (a:Addr) (g:TG) (tb:TS) (D:Ends) (σ:St) (H:Hp):Prop :=
  ((∃ xs,SqL K H a xs)∧∃ W:Nat→Nat→St→Hp→Prop,(∃ m,W 0 m σ H)∧∀ i m σ H,W i m σ H →
   ((Itl K a).stop i H∧D.nx σ H)∨((Itl K a).go i H∧∃ N:St→Hp→Prop,(∀ σ' H',N σ' H'→∃ m',m'<m∧W (i+1) m' σ' H')∧∀ x H',(Itl K a).yld i H x H'→g x σ H' fun σ2 H2=>tb { D with nx:=N,ct:=N,bk:=D.nx } σ2 H2)) ∨
  ((∃ xs,SqT K H a xs)∧∃ W:Nat→Nat→St→Hp→Prop,(∃ m,W 0 m σ H)∧∀ i m σ H,W i m σ H →
   ((K1 K a).stop i H∧D.nx σ H)∨((K1 K a).go i H∧∃ N:St→Hp→Prop,(∀ σ' H',N σ' H'→∃ m',m'<m∧W (i+1) m' σ' H')∧∀ x H',(K1 K a).yld i H x H'→g x σ H' fun σ2 H2=>tb { D with nx:=N,ct:=N,bk:=D.nx } σ2 H2))
theorem pW.by {K:PySem.W.Frag} {a:Addr} {xs:List V} {g:TG} {tb:TS} {D:Ends} {σ:St} {H:Hp} (hS:bA K H a xs) (Pv:Nat→St→Hp→Prop) (h0:Pv 0 σ H) (hl:∀ i σ H2,i≤xs.length→Pv i σ H2→Same H H2)
  (hs:∀ i x σ H,xs[i]? = some x→Pv i σ H→g x σ H fun σ2 H2=>tb { D with nx:=Pv (i+1),ct:=Pv (i+1),bk:=D.nx } σ2 H2) (hd:∀ σ H,Pv xs.length σ H→D.nx σ H):pW K a g tb D σ H:=aak hS Pv h0 hl hs hd
def Wh (W:Nat→St→Hp→Prop) (m:Nat) (tb:TS) (D:Ends) (σ:St) (H1:Hp):Prop:=∃ N:St→Hp→Prop,(∀ σ' H',N σ' H'→∃ m',m'<m∧W m' σ' H')∧tb { D with nx:=N,ct:=N,bk:=D.nx } σ H1
theorem Wh.by {W:Nat→St→Hp→Prop} {m:Nat} {tb:TS} {D:Ends} {σ:St} {H1:Hp} (h:tb { D with nx:=fun σ' H'=>∃ m',m'<m∧W m' σ' H',ct:=fun σ' H'=>∃ m',m'<m∧W m' σ' H',bk:=D.nx } σ H1):Wh W m tb D σ H1 :=
 ⟨_,fun _ _ x=>x,h⟩
theorem pX {c:TT} {tb:TS} {D:Ends} {σ:St} {H:Hp} (W:Nat→St→Hp→Prop) (m0:Nat) (h0:W m0 σ H) (hs:∀ m σ H,W m σ H→c σ H fun b H1=>if b=true then Wh W m tb D σ H1 else D.nx σ H1):K7 c tb D σ H:=⟨W,⟨m0,h0⟩,hs⟩
theorem nH.go {lo:Int} {n:Nat} {g:TG} {tb:TS} {D:Ends} {σ:St} {H:Hp} (Pv:Nat→St→Hp→Prop) (h0:Pv 0 σ H)
  (hs:∀ (i:Nat) (σ:St) (H:Hp) (N:St→Hp→Prop),i<n→Pv i σ H→(∀ σ' H',Pv (i+1) σ' H'→N σ' H')→g (.int (lo+i)) σ H fun σ2 H2=>tb { D with nx:=N,ct:=N,bk:=D.nx } σ2 H2) (hd:∀ σ H,Pv n σ H→D.nx σ H):nH lo n g tb D σ H :=
 nH.by Pv h0 (fun i σ H hi p=>hs i σ H _ hi p fun _ _ q=>q) hd
theorem pW.go {K:PySem.W.Frag} {a:Addr} {xs:List V} {g:TG} {tb:TS} {D:Ends} {σ:St} {H:Hp} (hS:bA K H a xs) (Pv:Nat→St→Hp→Prop) (h0:Pv 0 σ H) (hl:∀ i σ H2,i≤xs.length→Pv i σ H2→Same H H2)
  (hs:∀ (i:Nat) (x:V) (σ:St) (H:Hp) (N:St→Hp→Prop),xs[i]? = some x→Pv i σ H→(∀ σ' H',Pv (i+1) σ' H'→N σ' H')→g x σ H fun σ2 H2=>tb { D with nx:=N,ct:=N,bk:=D.nx } σ2 H2) (hd:∀ σ H,Pv xs.length σ H→D.nx σ H):pW K a g tb D σ H :=
 pW.by hS Pv h0 hl (fun i x σ H hi p=>hs i x σ H _ hi p fun _ _ q=>q) hd
theorem Wh.go {W:Nat→St→Hp→Prop} {m:Nat} {tb:TS} {D:Ends} {σ:St} {H1:Hp} (h:∀ N:St→Hp→Prop,(∀ m' σ' H',m'<m→W m' σ' H'→N σ' H')→tb { D with nx:=N,ct:=N,bk:=D.nx } σ H1):Wh W m tb D σ H1 :=
 Wh.by (h _ fun m' σ' H' hm w=>⟨m',hm,w⟩)
end L2
namespace L2
open PySem PySem.Spec PyProof.Rows
theorem Ol (v:V) (r:St) (H:Hp) (Q:VK):tVar 0 (some v::r) H Q=Q v H:=by
 refine propext ⟨fun ⟨_,e,q⟩=>?_,fun q=>⟨v,rfl,q⟩⟩
 cases e;exact q
theorem Om (i:Nat) (o:Option V) (r:St) (H:Hp) (Q:VK):tVar (i+1) (o::r) H Q=tVar i r H Q:=rfl
theorem abD (v:V) (σ:St) (H:Hp) (Q:VK):tC v σ H Q=Q v H:=rfl
theorem YT (r:R2) (ta tb:TE) (σ:St) (H:Hp) (Q:VK):tOp r ta tb σ H Q=ta σ H fun x H1=>tb σ H1 fun y H2=>r x y H2 Q:=rfl
theorem YW (C:Int→Int→Prop) (g:Int→Int→V) (i j:Int) (H:Hp) (Q:VK):rI C g (.int i) (.int j) H Q=(C i j∧Q (g i j) H):=by
 refine propext ⟨fun ⟨_,_,e1,e2,c,q⟩=>?_,fun ⟨c,q⟩=>⟨i,j,rfl,rfl,c,q⟩⟩
 cases e1;cases e2;exact ⟨c,q⟩
theorem Ug (g:Int→Int→V) (i j:Int) (H:Hp) (Q:VK):rI0 g (.int i) (.int j) H Q=Q (g i j) H:=by
 refine propext ⟨fun ⟨_,_,e1,e2,q⟩=>?_,fun q=>⟨i,j,rfl,rfl,q⟩⟩
 cases e1;cases e2;exact q
theorem Uh (i j:Int) (H:Hp) (Q:VK):rEq (.int i) (.int j) H Q=Q (.bl (decide (i=j))) H:=by
 have e:decide (V.int i=V.int j)=decide (i=j):=by simp
 refine propext ⟨fun ⟨_,q⟩=>by rw [e] at q;exact q,fun q=>⟨rfl,by rw [e];exact q⟩⟩
theorem Ui (i j:Int) (H:Hp) (Q:VK):rNe (.int i) (.int j) H Q=Q (.bl (!decide (i=j))) H:=by
 have e:decide (V.int i=V.int j)=decide (i=j):=by simp
 refine propext ⟨fun ⟨_,q⟩=>by rw [e] at q;exact q,fun q=>⟨rfl,by rw [e];exact q⟩⟩
theorem Uj (i j:Str) (H:Hp) (Q:VK):rEq (.str i) (.str j) H Q=Q (.bl (decide (i=j))) H:=by
 have e:decide (V.str i=V.str j)=decide (i=j):=by simp
 refine propext ⟨fun ⟨_,q⟩=>by rw [e] at q;exact q,fun q=>⟨rfl,by rw [e];exact q⟩⟩
theorem Uk (i j:Str) (H:Hp) (Q:VK):rNe (.str i) (.str j) H Q=Q (.bl (!decide (i=j))) H:=by
 have e:decide (V.str i=V.str j)=decide (i=j):=by simp
 refine propext ⟨fun ⟨_,q⟩=>by rw [e] at q;exact q,fun q=>⟨rfl,by rw [e];exact q⟩⟩
theorem Ul (i j:Bool) (H:Hp) (Q:VK):rEq (.bl i) (.bl j) H Q=Q (.bl (decide (i=j))) H:=by
 have e:decide (V.bl i=V.bl j)=decide (i=j):=by simp
 refine propext ⟨fun ⟨_,q⟩=>by rw [e] at q;exact q,fun q=>⟨rfl,by rw [e];exact q⟩⟩
def asB (x:V) (R:Bool→Prop):Prop:=∃ k,x=.bl k∧R k
theorem Um (k:Bool) (R:Bool→Prop):asB (.bl k) R=R k:=by
 refine propext ⟨fun ⟨_,e,q⟩=>?_,fun q=>⟨k,rfl,q⟩⟩
 cases e;exact q
def aal (vs:List V) (R:Int→Prop):Prop:=∃ j,vs=[.int j]∧R j
theorem Oo (j:Int) (R:Int→Prop):aal [.int j] R=R j:=by
 refine propext ⟨fun ⟨_,e,q⟩=>?_,fun q=>⟨j,rfl,q⟩⟩
 cases e;exact q
def aam (vs:List V) (R:Int→Int→Prop):Prop:=∃ i j,vs=[.int i,.int j]∧R i j
theorem Oq (i j:Int) (R:Int→Int→Prop):aam [.int i,.int j] R=R i j:=by
 refine propext ⟨fun ⟨_,_,e,q⟩=>?_,fun q=>⟨i,j,rfl,q⟩⟩
 cases e;exact q
def FZ (x:V) (R:Addr→Prop):Prop:=∃ a,x=.ref a∧R a
theorem Ln (a:Addr) (R:Addr→Prop):FZ (.ref a) R=R a:=by
 refine propext ⟨fun ⟨_,e,q⟩=>?_,fun q=>⟨a,rfl,q⟩⟩
 cases e;exact q
def asI (x:V) (R:Int→Prop):Prop:=∃ i,x=.int i∧R i
theorem Uo (i:Int) (R:Int→Prop):asI (.int i) R=R i:=by
 refine propext ⟨fun ⟨_,e,q⟩=>?_,fun q=>⟨i,rfl,q⟩⟩
 cases e;exact q
theorem Ot (t:TE) (σ:St) (H:Hp) (Q:Bool→Hp→Prop):tTest t σ H Q=t σ H fun x H'=>asB x fun k=>Q k H':=rfl
theorem YX (t:TE) (σ:St) (H:Hp) (Q:Bool→Hp→Prop):tB t σ H Q=t σ H fun x H'=>asB x fun k=>Q k H':=rfl
theorem Uq (t u:TT) (σ:St) (H:Hp) (Q:Bool→Hp→Prop):ZC t u σ H Q=t σ H fun c H1=>if c=true then u σ H1 Q else Q false H1:=rfl
theorem YZ (t u:TT) (σ:St) (H:Hp) (Q:Bool→Hp→Prop):tOr t u σ H Q=t σ H fun c H1=>if c=true then Q true H1 else u σ H1 Q:=rfl
theorem Ur (t:TT) (σ:St) (H:Hp) (Q:Bool→Hp→Prop):ZD t σ H Q=t σ H fun c H1=>Q (!c) H1:=rfl
theorem Ou (ta tb:TE) (σ:St) (H:Hp) (Q:VK):SQ ta tb σ H Q=ta σ H fun x H1=>asB x fun c=>if c=true then tb σ H1 Q else Q (.bl false) H1:=rfl
theorem Ov (ta:TE) (σ:St) (H:Hp) (Q:VK):SX ta σ H Q=ta σ H fun x H1=>asB x fun c=>Q (.bl (!c)) H1:=rfl
theorem Y0 (t:TT) (ta tb:TE) (σ:St) (H:Hp) (Q:VK):tIf t ta tb σ H Q=t σ H fun c H1=>if c=true then ta σ H1 Q else tb σ H1 Q:=rfl
theorem Us (t u:TS) (D:Ends) (σ:St) (H:Hp):tSeq t u D σ H=t { D with nx:=u D } σ H:=rfl
theorem Ow (D:Ends) (σ:St) (H:Hp):tNext D σ H=D.nx σ H:=rfl
theorem Ut (c:TT) (t u:TS) (D:Ends) (σ:St) (H:Hp):tIfS c t u D σ H=c σ H fun b H1=>if b=true then t D σ H1 else u D σ H1:=rfl
theorem Uu (te:TE) (D:Ends) (σ:St) (H:Hp):tRet te D σ H=te σ H D.rt:=rfl
theorem Ox (te:TE) (D:Ends) (σ:St) (H:Hp):tDrop te D σ H=te σ H fun _ H1=>D.nx σ H1:=rfl
theorem Uv (te:TE) (g:TG) (D:Ends) (σ:St) (H:Hp):tAsg te g D σ H=te σ H fun x H1=>g x σ H1 D.nx:=rfl
theorem G9 (i:Nat) (v:V) (σ:St) (H:Hp) (Q:St→Hp→Prop):gName i v σ H Q=Q (σ.set i (some v)) H:=rfl
theorem Uw (to ti:TE) (t:GZ) (v:V) (σ:St) (H:Hp) (Q:St→Hp→Prop):ZR to ti t v σ H Q=to σ H fun o H1=>ti σ H1 fun i H2=>t o i v H2 fun H3=>Q σ H3:=rfl
theorem Oz (p:Addr) (k:Int) (v:V) (H:Hp) (Q:Hp→Prop):YK (.ref p) (.int k) v H Q=∃ xs,H p=some (.lst xs)∧∃ j,ixN xs.length k=some j∧Q (upd H p (.lst (xs.set j v))):=by
 refine propext ⟨fun ⟨_,xs,_,j,e1,e2,h,h',q⟩=>?_,fun ⟨xs,h,j,h',q⟩=>⟨p,xs,k,j,rfl,rfl,h,h',q⟩⟩
 cases e1;cases e2;exact ⟨xs,h,j,h',q⟩
theorem OD (sp:Sp) (E:XK) (t:TA) (σ:St) (H:Hp) (Q:VK):tCall sp [] E t σ H Q=t σ H fun vs H1=>sp vs H1 Q E:=by
 unfold tCall;simp only [List.append_nil]
theorem Y4 (r:List V→Hp→VK→Prop) (t:TA) (σ:St) (H:Hp) (Q:VK):tCB r t σ H Q=t σ H fun vs H1=>r vs H1 Q:=rfl
theorem Ux (σ:St) (H:Hp) (Q:List V→Hp→Prop):tNil σ H Q=Q [] H:=rfl
theorem OJ (ta:TE) (tr:TA) (σ:St) (H:Hp) (Q:List V→Hp→Prop):tCons ta tr σ H Q=ta σ H fun x H1=>tr σ H1 fun xs H2=>Q (x::xs) H2:=rfl
theorem Uy (t:TA) (σ:St) (H:Hp) (Q:VK):Z1 t σ H Q=t σ H fun xs H1=>xs.length≤sizeLine∧∀ p,H1 p=none→Q (.ref p) (upd H1 p (.tup xs)):=rfl
theorem Uz (t:TA) (σ:St) (H:Hp) (Q:VK):tLst t σ H Q=t σ H fun xs H1=>xs.length≤sizeLine∧∀ p,H1 p=none→Q (.ref p) (upd H1 p (.lst xs)):=rfl
theorem UG (K:PySem.W.Frag) (T:String) (r:V→List V→Hp→VK→Prop) (to:TE) (σ:St) (H:Hp) (Q:VK):Z9 K T r to σ H Q=to σ H fun x H1=>Xl K T x H1∧r x [] H1 Q:=rfl
theorem Y5 (K:PySem.W.Frag) (T:String) (r:V→List V→Hp→VK→Prop) (to:TE) (t:TA) (σ:St) (H:Hp) (Q:VK):tBM K T r to t σ H Q=to σ H fun x H1=>Xl K T x H1∧t σ H1 fun xs H2=>r x xs H2 Q:=rfl
theorem O1 (ta:TA) (g:TG) (tb:TS) (D:Ends) (σ:St) (H:Hp):tFor (NP ta) g tb D σ H=ta σ H (fun vs H1=>aal vs fun j=>-(2 ^ 62)≤j∧j<2 ^ 62∧nH 0 j.toNat g tb D σ H1):=rfl
theorem O2 (ta:TA) (g:TG) (tb:TS) (D:Ends) (σ:St) (H:Hp):tFor (NQ ta) g tb D σ H=ta σ H (fun vs H1=>aam vs fun i j=>(-(2 ^ 62)≤i∧i<2 ^ 62∧-(2 ^ 62)≤j∧j<2 ^ 62)∧nH i (j - i).toNat g tb D σ H1):=rfl
theorem O4 (K:PySem.W.Frag) (tl:TE) (g:TG) (tb:TS) (D:Ends) (σ:St) (H:Hp):tFor (iSq K tl) g tb D σ H=tl σ H (fun x H1=>FZ x fun a=>pW K a g tb D σ H1):=rfl
theorem Js (N:List Str) (vs:List V):L2.start N vs=vs.map some++List.replicate (N.length - vs.length) none:=rfl
theorem O5 {A B:Prop}:(if true=true then A else B)=A:=if_pos rfl
theorem O6 {A B:Prop}:(if false=true then A else B)=B:=if_neg Bool.false_ne_true
theorem O7 {c A B:Prop} [Decidable c]:(if decide c=true then A else B)=(if c then A else B):=by simp only [decide_eq_true_eq]
theorem O8 {c A B:Prop} [Decidable c]:(if (!decide c)=true then A else B)=(if c then B else A):=by
 by_cases h:c <;> simp [h]
theorem Jt {b:Bool} {A B:Prop}:(if (!b)=true then A else B)=(if b=true then B else A):=by cases b <;> rfl
theorem Y6 (b:Bool):(!(!b))=b:=Bool.not_not b
theorem Y7 (r:V→Option Int→Option Int→Hp→VK→Prop) (te:TE) (tl th:TO) (σ:St) (H:Hp) (Q:VK):tSl r te tl th σ H Q=te σ H fun x H1=>tl σ H1 fun l H2=>th σ H2 fun u H3=>r x l u H3 Q:=rfl
theorem Ga (σ:St) (H:Hp) (Q:Option Int→Hp→Prop):G4 σ H Q=Q none H:=rfl
theorem O9 (t:TE) (σ:St) (H:Hp) (Q:Option Int→Hp→Prop):Tp t σ H Q=t σ H fun x H1=>asI x fun i=>Q (some i) H1:=rfl
theorem UJ (K:PySem.W.Frag) (a:Addr) (lo hi:Option Int) (H:Hp) (Q:VK):Xk K (.ref a) lo hi H Q=∃ xs,SqL K H a xs∧∀ p,H p=none→Q (.ref p) (upd H p (.lst (oW xs lo hi))):=by
 refine propext ⟨fun ⟨_,xs,e,h,q⟩=>?_,fun ⟨xs,h,q⟩=>⟨a,xs,rfl,h,q⟩⟩
 cases e;exact ⟨xs,h,q⟩
theorem UL (l b:Addr) (H:Hp) (Q:VK):rCat (.ref l) (.ref b) H Q=∃ xs zs,H l=some (.lst xs)∧H b=some (.lst zs)∧xs.length+zs.length≤sizeLine∧∀ p,H p=none→Q (.ref p) (upd H p (.lst (xs++zs))):=by
 refine propext ⟨fun ⟨_,_,xs,zs,e1,e2,h⟩=>?_,fun ⟨xs,zs,h⟩=>⟨l,b,xs,zs,rfl,rfl,h⟩⟩
 cases e1;cases e2;exact ⟨xs,zs,h⟩
theorem Pa (σ:St) (H:Hp) (Q:VK):tDNewK σ H Q=∀ d,H d=none→Q (.ref d) (upd H d (.dK [])):=rfl
theorem UW (ty td:TE) (σ:St) (H:Hp) (Q:VK):tDIn ty td σ H Q=ty σ H fun y H1=>td σ H1 fun x H2=>FZ x fun a=>∃ o,DGet H2 a y o∧Q (.bl o.isSome) H2:=by
 unfold tDIn FZ
 congr;funext y H1;congr;funext x H2
 exact propext ⟨fun ⟨a,o,e,h⟩=>⟨a,e,o,h⟩,fun ⟨a,e,o,h⟩=>⟨a,o,e,h⟩⟩
theorem Gb (ty td:TE) (σ:St) (H:Hp) (Q:VK):tDNotIn ty td σ H Q=ty σ H fun y H1=>td σ H1 fun x H2=>FZ x fun a=>∃ o,DGet H2 a y o∧Q (.bl (!o.isSome)) H2:=by
 unfold tDNotIn FZ
 congr;funext y H1;congr;funext x H2
 exact propext ⟨fun ⟨a,o,e,h⟩=>⟨a,e,o,h⟩,fun ⟨a,e,o,h⟩=>⟨a,o,e,h⟩⟩
theorem Pb (td ty:TE) (σ:St) (H:Hp) (Q:VK):Ob td ty σ H Q=td σ H fun x H1=>ty σ H1 fun y H2=>FZ x fun a=>∃ v,DGet H2 a y (some v)∧Q v H2:=by
 unfold Ob FZ
 congr;funext y H1;congr;funext x H2
 exact propext ⟨fun ⟨a,o,e,h⟩=>⟨a,e,o,h⟩,fun ⟨a,e,o,h⟩=>⟨a,o,e,h⟩⟩
theorem Pg (td ty tv:TE) (D:Ends) (σ:St) (H:Hp):sDPut td ty tv D σ H=tv σ H fun v H1=>td σ H1 fun x H2=>ty σ H2 fun y H3=>FZ x fun a=>∃ H4,DPut H3 a y v H4∧D.nx σ H4:=by
 unfold sDPut FZ
 congr;funext v H1;congr;funext x H2;congr;funext y H3
 exact propext ⟨fun ⟨a,o,e,h⟩=>⟨a,e,o,h⟩,fun ⟨a,e,o,h⟩=>⟨a,o,e,h⟩⟩
theorem U0 (l:Addr) (k:Int) (H:Hp) (Q:VK):abx (.ref l) (.int k) H Q=∃ xs,H l=some (.lst xs)∧-(2 ^ 63)≤k∧k<2 ^ 63∧xs.length*k.toNat≤sizeLine∧∀ p,H p=none→Q (.ref p) (upd H p (.lst (List.replicate k.toNat xs).flatten)):=by
 refine propext ⟨fun ⟨_,_,xs,e1,e2,h⟩=>?_,fun ⟨xs,h⟩=>⟨l,k,xs,rfl,rfl,h⟩⟩
 cases e1;cases e2;exact ⟨xs,h⟩
end L2
namespace L2
open PySem PySem.Spec PyProof.Rows
theorem U3 {K:PySem.W.Frag} {h:Heap} {mg:Str→Option Value} {x:Str} {st:Stmt} {ps:List Str} {f:Addr} {oc:Value} {od an:Option Addr} {osl:Array (Option Value)} {kV doc pm cdv ct:Value} (X:K.In h) (G:h.Ns mainGlobals mg)
  (a:PySem.W.nsIn K mainGlobals x=some (some (.ref f))) (l:K.lookup f=some ⟨oc,od,.func (PySem.W.fnOf x x (defArgs st) (defBody st) (defScope st) .none kV doc pm an cdv ct),osl⟩) (c:PySem.W.codeIn K cdv x=true) (k:PySem.W.keepIn K (.ref f)=true)
  (hb:∀ (kV doc pm:Value) (an:Option Addr) (cdv ct:Value) (us:List Value),us.length=ps.length→bindArgs (PySem.W.fnOf x x (defArgs st) (defBody st) (defScope st) .none kV doc pm an cdv ct) ⟨us,[]⟩=pure (ps.zip us)):aM K mg x st ps :=
 ⟨f,_,fun_mk l c k,PySem.W.mg_of X G a,(fun_mk l c k).binds hb⟩
theorem aan {P:Program} {w:World} {K:PySem.W.Frag} {h:Heap} {mg:Str→Option Value} {st:Stmt} {p:Str} {fa f:Addr} {kk:Nat} {sp:Sp} {oc:Value} {od an:Option Addr} {osl:Array (Option Value)} {kV doc pm cdv ct:Value} (X:K.In h) (G:h.Ns mainGlobals mg)
  (hfa:mg "law" = some (.ref fa)) (a:PySem.W.nsIn K mainGlobals "law" = some (some (.ref f))) (l:K.lookup f=some ⟨oc,od,.func (PySem.W.fnOf "law" "law" (defArgs st) (defBody st) (defScope st) .none kV doc pm an cdv ct),osl⟩) (c:PySem.W.codeIn K cdv "law" = true) (k:PySem.W.keepIn K (.ref f)=true)
  (hb:∀ (s:Shared) (v:Value),BindsTo s (PySem.W.fnOf "law" "law" (defArgs st) (defBody st) (defScope st) .none kV doc pm an cdv ct) ⟨[v],[]⟩ [(p,v)])
  (R:∀ (base:Heap) (fd:FuncData),Fun K "law" "law" st f fd→FnOk P w K mg base CX0 kk f fd [p] sp) :
  ∃ fd:FuncData,(∀ (s:Shared) (v:Value),BindsTo s fd ⟨[v],[]⟩ [(p,v)])∧∀ base:Heap,K.In base→base.Ns mainGlobals mg→FnOk P w K mg base CX0 kk fa fd [p] sp:=by
 have e:=hfa.symm.trans (PySem.W.mg_of X G a)
 cases e
 exact ⟨_,hb,fun base _ _=>R base _ (fun_mk l c k)⟩
end L2
namespace L2
open PySem PySem.Spec PyProof.Rows
theorem u0 {mg:Str→Option Value} {x:Str} {v:Value} {i:Int} (h:mg x=some v) (e:∃ t,v=.int i t):GI mg x i:=by
 obtain ⟨t,rfl⟩:=e
 exact ⟨t,h⟩
end L2
namespace L2
open PySem PySem.Spec PyProof.Rows
theorem Y8 {t u:TS} {D:Ends} {σ:St} {H:Hp} (R:St→Hp→Prop) (ht:∀ N:St→Hp→Prop,(∀ σ' H',R σ' H'→N σ' H')→t { D with nx:=N } σ H) (hu:∀ σ' H',R σ' H'→u D σ' H'):tSeq t u D σ H:=ht (u D) hu
end L2
namespace L2
open PySem PySem.Spec PyProof.Rows
theorem Ph {K:PySem.W.Frag} {H H':Hp} {a:Addr} {xs:List V} (e:∀ o,H a=some o→H' a=some o) (h:SqL K H a xs):SqL K H' a xs:=by
 rcases h with (h | ⟨o,h⟩) | h
 ·exact .inl (.inl (e _ h))
 ·exact .inl (.inr ⟨o,e _ h⟩)
 ·exact .inr h
theorem Xv {K:PySem.W.Frag} {H H':Hp} {a:Addr} {xs:List V} (e:∀ o,H a=some o→H' a=some o) (h:SqT K H a xs):SqT K H' a xs:=by
 rcases h with (h | ⟨o,h⟩) | h
 ·exact .inl (.inl (e _ h))
 ·exact .inl (.inr ⟨o,e _ h⟩)
 ·exact .inr h
theorem pW.at {K:PySem.W.Frag} {a:Addr} {xs:List V} {g:TG} {tb:TS} {D:Ends} {σ:St} {H:Hp} (hS:bA K H a xs) (Pv:Nat→St→Hp→Prop) (h0:Pv 0 σ H) (hl:∀ i σ H2,i≤xs.length→Pv i σ H2→∀ o,H a=some o→H2 a=some o)
  (hs:∀ (i:Nat) (x:V) (σ:St) (H:Hp) (N:St→Hp→Prop),xs[i]? = some x→Pv i σ H→(∀ σ' H',Pv (i+1) σ' H'→N σ' H')→g x σ H fun σ2 H2=>tb { D with nx:=N,ct:=N,bk:=D.nx } σ2 H2) (hd:∀ σ H,Pv xs.length σ H→D.nx σ H):pW K a g tb D σ H:=by
 rcases hS with h | h
 ·exact .inl ⟨⟨xs,h⟩,for_list Pv h0 (fun i σ H2 hi p=>Ph (hl i σ H2 hi p) h) (fun i x σ H hi p=>hs i x σ H _ hi p fun _ _ q=>q) hd⟩
 ·exact .inr ⟨⟨xs,h⟩,G3 Pv h0 (fun i σ H2 hi p=>Xv (hl i σ H2 hi p) h) (fun i x σ H hi p=>hs i x σ H _ hi p fun _ _ q=>q) hd⟩
end L2
namespace L2
open PySem PySem.Spec PyProof.Rows
def iU (env:Env) (cs:List (Str×Addr)) (y:Str×NameKind):List (Str×Addr):=if y.2 == .free then (y.1,(env.cells.lookup y.1).getD 0)::cs else cs
def Eo (scope:Scope) (env:Env):List (Str×Addr):=scope.names.foldl (iU env) []
theorem vG {env:Env}:∀ (l:List (Str×NameKind)) (cs:List (Str×Addr)),(∀ y∈l,y.2=.free→∃ c,env.cells.lookup y.1=some c) →
  (forIn l cs (fun (y:Str×NameKind) (r:List (Str×Addr))=>if (y.2 == .free)=true then (do let c ←cellOf env y.1;pure (ForInStep.yield ((y.1,c)::r))) else pure (ForInStep.yield r)):Sem (List (Str×Addr)))=pure (l.foldl (iU env) cs)
 | [],cs,_=>by simp
 | y::r,cs,h=>by
  rw [List.forIn_cons,List.foldl_cons]
  by_cases hy:(y.2 == .free)=true
  ·obtain ⟨c,hc⟩:=h y List.mem_cons_self (beq_iff_eq.mp hy)
   have e:cellOf env y.1=pure c:=by unfold cellOf;rw [hc]
   have e2:iU env cs y=(y.1,c)::cs:=by unfold iU;rw [if_pos hy,hc];rfl
   rw [if_pos hy,e,e2]
   simp only [pure_bind]
   exact vG r _ fun z hz=>h z (List.mem_cons_of_mem _ hz)
  ·have e2:iU env cs y=cs:=by unfold iU;rw [if_neg hy]
   rw [if_neg hy,e2]
   simp only [pure_bind]
   exact vG r _ fun z hz=>h z (List.mem_cons_of_mem _ hz)
theorem BK {scope:Scope} {env:Env} (h:∀ y∈scope.names,y.2=.free→∃ c,env.cells.lookup y.1=some c):closureFor scope env=pure (Eo scope env):=by
 have e:=vG scope.names [] h
 unfold closureFor Eo
 rw [←e]
 first
  | rfl
  | simp only [bind_pure]
  | (simp only [bind_pure];rfl)
theorem U4 {env:Env}:∀ (l:List (Str×NameKind)) (cs:List (Str×Addr)),(∀ y∈l,y.2=.free→∃ c,env.cells.lookup y.1=some c)→(∀ p∈cs,env.cells.lookup p.1=some p.2)→∀ p∈l.foldl (iU env) cs,env.cells.lookup p.1=some p.2
 | [],cs,_,h2,p,hp=>h2 p hp
 | y::r,cs,h,h2,p,hp=>by
  refine U4 r (iU env cs y) (fun z hz=>h z (List.mem_cons_of_mem _ hz)) (fun q hq=>?_) p hp
  unfold iU at hq
  by_cases hy:(y.2 == .free)=true
  ·rw [if_pos hy] at hq
   obtain ⟨c,hc⟩:=h y List.mem_cons_self (beq_iff_eq.mp hy)
   rcases List.mem_cons.mp hq with e | e
   ·subst e;show env.cells.lookup y.1=some ((env.cells.lookup y.1).getD 0);rw [hc];rfl
   ·exact h2 q e
  ·rw [if_neg hy] at hq
   exact h2 q hq
theorem Lp {env:Env} {x:Str}:∀ (l:List (Str×NameKind)) (cs:List (Str×Addr)),((∃ y∈l,y.2=.free∧y.1=x)∨∃ p∈cs,p.1=x)→∃ p∈l.foldl (iU env) cs,p.1=x
 | [],cs,h=>by
  rcases h with ⟨y,hy,_⟩ | h
  ·cases hy
  ·exact h
 | y::r,cs,h=>by
  refine Lp r (iU env cs y) ?_
  rcases h with ⟨z,hz,h1,h2⟩ | ⟨p,hp,h1⟩
  ·rcases List.mem_cons.mp hz with e | e
   ·subst e
    refine .inr ⟨(z.1,(env.cells.lookup z.1).getD 0),?_,h2⟩
    unfold iU
    rw [if_pos (by rw [h1];rfl)]
    exact List.mem_cons_self
   ·exact .inl ⟨z,e,h1,h2⟩
  ·refine .inr ⟨p,?_,h1⟩
   unfold iU
   split
   ·exact List.mem_cons_of_mem _ hp
   ·exact hp
theorem gn {α:Type} {x:Str}:∀ {l:List (Str×α)},(∃ p∈l,p.1=x)→∃ c,l.lookup x=some c
 | [],h=>by obtain ⟨p,hp,_⟩:=h;cases hp
 | q::r,h=>by
  obtain ⟨k,v⟩:=q
  rw [List.lookup_cons]
  by_cases e:(x == k)=true
  ·rw [e];exact ⟨v,rfl⟩
  ·obtain ⟨p,hp,h2⟩:=h
   rcases List.mem_cons.mp hp with z | z
   ·subst z;exact absurd (beq_iff_eq.mpr h2.symm) e
   ·have:=gn (l:=r) ⟨p,z,h2⟩
    rw [show (x == k)=false by simpa using e]
    exact this
def Xw (x y:Str):Str:=if y == x then ("":Str) else y
def Cx.blk (X:Cx) (scope:Scope) (x:Str) (C:Addr) (s:Shared) (H:Hp) (fp:List Addr):Cx where
 prog:=X.prog
 w:=X.w
 K:=X.K
 mg:=X.mg
 base:=X.base
 A:=X.A
 N:=x::X.N.map (Xw x)
 s₀:=s
 H₀:=H
 env:=compEnvC scope (Eo scope X.env) C X.env
 outer:=X.stack
 stack:=X.stack
 ex:=fp
 fn:=fun _=>false
 calm:=X.calm
 pn:=[]
 xe:=fun _ _=>False
structure cL (X:Cx) (scope:Scope) (x:Str):Prop where
 kind:scope.kind=.function
 fn:X.env.scope.kind=.function
 own:scope.names.lookup x=some .local
 U5:(scope.names.all fun y=>y.2 != .cell)=true
 loc:(scope.names.all fun y=>y.2 != .local || scope.names.lookup y.1 == some .local)=true
 free:(scope.names.all fun y=>y.2 != .free || X.env.scope.names.lookup y.1 == some .cell)=true
 one:(scope.names.all fun y=>y.2 != .local || y.1 == x || y.1 == (".0":Str))=true
 new:((scope.names.lookup ("":Str)).isNone && X.N.all fun y=>!(y == (".0":Str)))=true
section
variable {X:Cx} {scope:Scope} {x:Str} {C:Addr} {pins:List (Addr×Obj)} {σ:St} {H:Hp} {s:Shared} {fp:List Addr}
theorem cL.has (S:cL X scope x) (ok:X.Ok):∀ y∈scope.names,y.2=.free→∃ c,X.env.cells.lookup y.1=some c:=fun y hy hf=>by
 have h:=List.all_eq_true.mp S.free y hy
 rw [hf] at h
 have h':X.env.scope.names.lookup y.1=some .cell:=by simpa using h
 exact ok.has y.1 (.inl h')
theorem cL.cellOf (S:cL X scope x) (ok:X.Ok) {y:Str} {c:Addr} (h:(Eo scope X.env).lookup y=some c):X.env.cells.lookup y=some c :=
 U4 scope.names [] (S.has ok) (fun p hp=>by cases hp) (y,c) (PySem.mem_of_lookup h)
theorem lookup_mem {α:Type} {x:Str} {k:α} {l:List (Str×α)} (h:l.lookup x=some k):(x,k)∈l:=PySem.mem_of_lookup h
theorem pY {env:Env}:∀ {names:List (Str×NameKind)} {y:Str} {k:NameKind},(names.map fun (n,k)=>if (k == NameKind.free && env.scope.kind == .function && env.kindOf n == some .cell) then (n,NameKind.cell) else (n,k)).lookup y=some k →
  ∃ k0,names.lookup y=some k0∧(k=k0∨(k0=.free∧k=.cell))
 | [],_,_,h=>by simp at h
 | (n,k')::r,y,k,h=>by
  have ih:=@pY env r y k
  rw [List.lookup_cons]
  rw [List.map_cons] at h
  cases hx:y == n with
  | true =>
   refine ⟨k',rfl,?_⟩
   by_cases hc:(k' == NameKind.free && env.scope.kind == .function && env.kindOf n == some .cell)=true
   ·dsimp only at h
    rw [if_pos hc,List.lookup_cons,hx] at h
    simp only [Option.some.injEq] at h
    rw [Bool.and_eq_true,Bool.and_eq_true] at hc
    exact .inr ⟨beq_iff_eq.mp hc.1.1,h.symm⟩
   ·dsimp only at h
    rw [if_neg hc,List.lookup_cons,hx] at h
    simp only [Option.some.injEq] at h
    exact .inl h.symm
  | false =>
   dsimp only at h
   split at h
   ·rw [List.lookup_cons,hx] at h
    exact ih h
   ·rw [List.lookup_cons,hx] at h
    exact ih h
theorem cL.sees (S:cL X scope x) {y:Str} {k:NameKind} (h:(relabel scope X.env).names.lookup y=some k) (hk:k=.local∨k=.cell∨k=.free):(k=.local∧(y=x∨y=(".0":Str)))∨(k≠.local∧scope.names.lookup y=some .free∧X.env.scope.names.lookup y=some .cell):=by
 obtain ⟨k0,h0,e⟩:=pY (env:=X.env) h
 have hm:=lookup_mem h0
 by_cases hl:k0=.local
 ·subst hl
  have h1:=List.all_eq_true.mp S.one _ hm
  left
  refine ⟨?_,by simpa using h1⟩
  rcases e with e | ⟨e,_⟩
  ·exact e
  ·cases e
 ·right
  have hc:k0≠.cell:=fun z=>by
   have:=List.all_eq_true.mp S.U5 _ hm
   rw [z] at this
   simp at this
  have hf:k0=.free:=by
   rcases e with e | ⟨e,_⟩
   ·subst e
    rcases hk with z | z | z
    ·exact absurd z hl
    ·exact absurd z hc
    ·exact z
   ·exact e
  subst hf
  refine ⟨?_,h0,?_⟩
  ·rcases e with e | ⟨_,e⟩
   ·rw [e];decide
   ·rw [e];decide
  ·have:=List.all_eq_true.mp S.free _ hm
   simpa using this
theorem Hf (S:cL X scope x) (I:Inv X pins σ H s) (hC:s.heap.objs.size≤C) (hf:∀ b∈fp,FpOk X pins H b) (hlt:∀ b∈fp,b<s.heap.objs.size):(X.blk scope x C s H fp).Ok where
 mod:=I.ok.mod
 kind:=S.kind
 glob:=I.ok.glob
 blt:=I.ok.blt
 above:=hC
 inj:=fun y z c h1 h2=>I.ok.inj y z c (S.cellOf I.ok h1) (S.cellOf I.ok h2)
 has:=fun y hy=>by
  have hy:(relabel scope X.env).names.lookup y=some .cell∨(relabel scope X.env).names.lookup y=some .free:=hy
  have q:∃ p∈Eo scope X.env,p.1=y:=by
   refine Lp scope.names [] (.inl ?_)
   have:scope.names.lookup y=some .free:=by
    rcases hy with h | h
    ·rcases S.sees h (.inr (.inl rfl)) with e | e
     ·cases e.1
     ·exact e.2.1
    ·rcases S.sees h (.inr (.inr rfl)) with e | e
     ·cases e.1
     ·exact e.2.1
   exact ⟨(y,.free),lookup_mem this,rfl,rfl⟩
  exact gn q
 cab:=fun y c h _=>by cases h
 hd:=I.ok.hd
 frames:=I.ok.frames
 stk:=.inl rfl
 exf:=fun b hb=>⟨Nat.ne_of_lt (Nat.lt_of_lt_of_le (hlt b hb) hC),fun y c h=>(hf b hb).2.2.2.2.1 y c (S.cellOf I.ok h)⟩
 bs:=fun b o e=>I.bs b o e
 bsz:=Nat.le_trans I.ok.bsz I.sz
 noex:=fun b o e hb=>by
  rcases (hf b hb).2.2.2.1 with h | h
  ·exact I.ok.noex b o e h
  ·have:=Heap.lt_size (I.ok.bs b o e).1
   exact absurd this (Nat.not_lt.mpr h)
 exfs:=fun b hb hz=>by
  rcases List.mem_cons.mp (I.stkSub b hz) with e | e
  ·exact (hf b hb).2.1 e
  ·exact (hf b hb).2.2.1 e
 funs:=I.stack
 frf:=I.stkFree
theorem Ru (S:cL X scope x) (I:Inv X pins σ H s) {H':Hp} {h':Heap} {t':Nat} {m:Str→Option Value} (hC:s.heap.objs.size≤C) (hf:∀ b∈fp,FpOk X pins H b) (hlt:∀ b∈fp,b<s.heap.objs.size)
  (hk:∀ b u,s.heap.get? b=some u→h'.get? b=some u) (un:Un (frs X.stack) fp H H' s.heap h') (hok:HOk X.prog X.w H' h') (hm:h'.Ns C m) (hn:H' C=none) :
  Inv (X.blk scope x C s H fp) [] (none::σ) H' { s with heap:=h',toks:=t' }:=by
 have ok:=Hf (C:=C) S I hC hf hlt
 refine ⟨ok,rfl,I.bare,un,⟨m,hm,fun i y v h1 h2 h3=>?_⟩,fun y c h=>?_,hn,fun y c h=>?_,fun p hp=>absurd (show p∈([]:List (Addr×Obj)) from hp) (by simp),hok,?_⟩
 ·cases i with
  | zero =>
   have h2':some (none:Option V)=some (some v):=h2
   cases h2'
  | succ i =>
   have abF:(X.N.map (Xw x))[i]? = some y:=h1
   have h2':σ[i]? = some (some v):=h2
   have Sn:=Bool.and_eq_true_iff.mp S.new
   rw [List.getElem?_map,Option.map_eq_some_iff] at abF
   obtain ⟨z,h1',hz⟩:=abF
   have hv:∃ k,(relabel scope X.env).names.lookup y=some k∧(k=.local∨k=.cell∨k=.free):=by
    rcases h3 with h | h | h
    ·exact ⟨_,h,.inl rfl⟩
    ·exact ⟨_,h,.inr (.inl rfl)⟩
    ·exact ⟨_,h,.inr (.inr rfl)⟩
   obtain ⟨k,hk1,hk2⟩:=hv
   have nul:y≠("":Str):=fun q=>by
    subst q
    obtain ⟨k0,h0,_⟩:=pY (env:=X.env) hk1
    rw [h0] at Sn
    exact absurd Sn.1 (by simp)
   have hzy:z=y∧¬ (y=x∨y=(".0":Str)):=by
    unfold Xw at hz
    by_cases q:(z == x)=true
    ·rw [if_pos q] at hz;exact absurd hz.symm nul
    ·rw [if_neg q] at hz
     subst hz
     refine ⟨rfl,fun w=>?_⟩
     rcases w with w | w
     ·exact q (beq_iff_eq.mpr w)
     ·have:=List.all_eq_true.mp Sn.2 z (List.mem_of_getElem? h1')
      rw [w] at this;simp at this
   obtain ⟨hzy,hyx⟩:=hzy
   rw [hzy] at h1'
   rcases S.sees hk1 hk2 with e | ⟨hkl,hfree,hcell⟩
   ·exact absurd e.2 hyx
   obtain ⟨m0,hn0,hl0⟩:=I.loc
   obtain ⟨u,ru,lk⟩:=hl0 i y v h1' h2' (.inr (.inl hcell))
   refine ⟨u,ru,?_⟩
   rcases lk with ⟨e,_⟩ | ⟨_,c,hc,aao⟩
   ·have e':X.env.scope.names.lookup y=some .local:=e
    rw [hcell] at e';cases e'
   ·obtain ⟨c',hc'⟩:=gn (Lp (env:=X.env) scope.names [] (.inl ⟨(y,.free),lookup_mem hfree,rfl,rfl⟩))
    have:=S.cellOf I.ok hc'
    rw [hc] at this
    cases this
    refine .inr ⟨?_,c,hc',?_⟩
    ·have:(compEnvC scope (Eo scope X.env) C X.env).kindOf y=some k:=hk1
     show (compEnvC scope (Eo scope X.env) C X.env).kindOf y=some .cell∨(compEnvC scope (Eo scope X.env) C X.env).kindOf y=some .free
     rcases hk2 with z | z | z
     ·exact absurd z hkl
     ·rw [this,z];exact .inl rfl
     ·rw [this,z];exact .inr rfl
    ·obtain ⟨o,ho,r⟩:=aao
     exact ⟨o,hk _ _ ho,r⟩
 ·obtain ⟨v,o,ho,r⟩:=I.cell y c (S.cellOf I.ok h)
  exact ⟨v,o,hk _ _ ho,r⟩
 ·have hc:=S.cellOf I.ok h
  obtain ⟨v,o,ho,r⟩:=I.cell y c hc
  exact un.free c o ho (I.freeC y c hc) fun hb=>(hf c hb).2.2.2.2.1 y c hc rfl
 ·show σ.length+1=(X.N.map (Xw x)).length+1
  rw [I.len,List.length_map]
end
section
variable {prog:Program} {w:World} {A:Around} {s:Shared} {R:Result→Shared→Prop}
theorem Hg {elt target iter:Expr} {scope:Scope} {pos:Pos} {it acc:Value} {env:Env} (I:Nat→Shared→Prop)
  (turn:∀ n s,I n s→wpAny (model prog w) A (pyNext it) (fun r s₁=>match r with
   | none=>R (.ok .next) s₁
   | some v=>wpAny (model prog w) A (letOwnedTupleGo target it v) (fun _ s₁'=>wpAny (model prog w) A (assign target env v) (fun _ s₂=>wpAny (model prog w) A (eval elt env) (fun x s₃ =>
     wpAny (model prog w) A (call (.builtin "list.append") [acc,x]) (fun _ s₄=>∃ m,m<n∧I m s₄) (fun _ _=>False) s₃)
     (fun _ _=>False) s₂) (fun _ _=>False) s₁') (fun _ _=>False) s₁) (fun _ _=>False) s)
  (n:Nat) (h:I n s):codeAny (model prog w) A (.compLoop (.ListComp elt [⟨target,iter,[],0⟩] scope pos) 0 it acc env) R s:=by
 refine codeAny_loop rfl I (fun n s hI=>?_) n h
 show wpAny _ _ ((compTurn (.ListComp elt [⟨target,iter,[],0⟩] scope pos) 0 it acc env).onRaise (fun x=>do noteFrame x env;theTreesLotGoes x)) _ _ s
 refine wpAny_noted ?_
 rw [compTurn_list1]
 refine wpAny_bind (wpAny_standAt (wpAny_bind (wpAny_mono (turn n s hI) (fun r s₁ h₁=>?_) fun _ _ h'=>h'.elim)))
 cases r with
 | none=>exact wpAny_pure h₁
 | some v =>
  refine wpAny_bind (wpAny_mono h₁ (fun _ s₁' h₁'=>?_) fun _ _ h'=>h'.elim)
  exact wpAny_bind (wpAny_mono h₁' (fun _ s₂ h₂=>wpAny_bind (wpAny_bind (wpAny_mono h₂ (fun x s₃ h₃=>wpAny_bind (wpAny_mono h₃
   (fun _ s₄ h₄=>wpAny_pure (wpAny_pure ⟨rfl,h₄⟩)) fun _ _ h'=>h'.elim)) fun _ _ h'=>h'.elim))) fun _ _ h'=>h'.elim)
end
def tLC (wi:TI) (te:TE):TE:=fun σ H Q=>wi σ H fun J H1=>∀ D,H1 D=none→∃ W:Nat→Nat→Hp→Prop,(∃ m,W 0 m (upd H1 D (.lst [])))∧∀ i m H2,W i m H2 →
 (J.stop i H2∧Q (.ref D) H2)∨(J.go i H2∧∀ x H',J.yld i H2 x H'→te (some x::σ) H' fun y H3=>∃ ys,H3 D=some (.lst ys)∧ys.length<sizeLine∧∃ m',m'<m∧W (i+1) m' (upd H3 D (.lst (ys++[y]))))
section
variable {X:Cx} {scope:Scope} {x:Str} {elt iter:Expr} {wi:TI} {te:TE} {px pos:Pos}
theorem Ju (S:cL X scope x) (hc:X.calm=true) {pins:List (Addr×Obj)} {σ:St} {H:Hp} {s:Shared} {it:Addr} {fp:List Addr} {tn:Nat→Heap→Prop} {J:It} {Q:VK} {RR:Value→Addr→Result→Shared→Prop} {E:Value→Shared→Prop}
  (he:∀ C s H fp,PE (X.blk scope x C s H fp) elt te) (hg:∀ C s H fp,PG (X.blk scope x C s H fp) (.Name x px) (gName 0))
  (I:Inv X pins σ H s) (T:Turn X.prog X.w X.K (.Name x px) J fp it tn) (st:tn 0 s.heap) (hf:∀ b∈fp,FpOk X pins H b)
  (q:∀ D,H D=none→∃ W:Nat→Nat→Hp→Prop,(∃ m,W 0 m (upd H D (.lst [])))∧∀ i m H2,W i m H2 →
   (J.stop i H2∧Q (.ref D) H2)∨(J.go i H2∧∀ x H',J.yld i H2 x H'→te (some x::σ) H' fun y H3=>∃ ys,H3 D=some (.lst ys)∧ys.length<sizeLine∧∃ m',m'<m∧W (i+1) m' (upd H3 D (.lst (ys++[y])))))
  (hRR:∀ (D C:Addr) (s':Shared) (H':Hp) (m':Str→Option Value),Q (.ref D) H'→Inv X pins σ H' s'→s'.heap.Ns C m'→H' C=none→s.heap.objs.size≤C→RR (.ref D) C (.ok .next) s') :
  wpAny (model X.prog X.w) X.A (newList []) (fun acc s₃=>wpAny (model X.prog X.w) X.A (newFunctionEnv scope X.env.globals (Eo scope X.env) [] X.env.qual none .none (some X.env)) (fun cenv s₄ =>
   codeAny (model X.prog X.w) X.A (.compStart (.ListComp elt [⟨.Name x px,iter,[],0⟩] scope pos) 0 (.ref it) acc { cenv with scope:=relabel scope X.env }) (RR acc cenv.locals) s₄) E s₃) E s:=by
 have hcell:∀ y∈scope.names,y.2≠.cell:=fun y hy z=>by
  have:=List.all_eq_true.mp S.U5 y hy
  rw [z] at this
  simp at this
 refine wpAny_newObj_type (wpAny_newFunctionEnv hcell (by intro y hy;simp at hy) (fun h₁ hns₁ hsb₁=>?_) S.kind)
 dsimp only at hns₁ hsb₁ ⊢
 generalize hH2:s.heap.push { cls:=.type "list",dict:=none,data:=.seq ([]:List Value).toArray }=G2 at hns₁ hsb₁ ⊢
 have hC:G2.objs.size=s.heap.objs.size+1:=by rw [←hH2,Heap.size_push]
 have hDC:s.heap.objs.size≠G2.objs.size:=by rw [hC];exact Nat.ne_of_lt (Nat.lt_succ_self _)
 have hCle:s.heap.objs.size≤G2.objs.size:=by rw [hC];exact Nat.le_succ _
 have below:∀ b,b<s.heap.objs.size→b≠G2.objs.size∧b≠s.heap.objs.size:=fun b hb=>⟨by rw [hC];exact Nat.ne_of_lt (Nat.lt_succ_of_lt hb),Nat.ne_of_lt hb⟩
 have old:∀ b o,s.heap.get? b=some o→h₁.get? b=some o:=fun b o e=>hsb₁.extBut b o (below b (Heap.lt_size e)).1 (Heap.get?_push_of_some _ (hH2 ▸ Heap.get?_push_of_some _ e))
 have hacc:h₁.get? s.heap.objs.size=some { cls:=.type "list",dict:=none,data:=.seq ([]:List Value).toArray }:=hsb₁.extBut _ _ hDC (Heap.get?_push_of_some _ (hH2 ▸ Heap.get?_push_size _ rfl))
 have hlt:∀ b∈fp,b<s.heap.objs.size:=fun b hb=>by
  obtain ⟨o,ho,_⟩:=T.obj 0 _ st b hb
  exact Heap.lt_size ho
 have hD:H s.heap.objs.size=none:=I.hok.fresh (Nat.le_refl _)
 have hCn:upd H s.heap.objs.size (.lst []) G2.objs.size=none:=by rw [upd_ne (Ne.symm hDC)];exact I.hok.fresh hCle
 have I4:Inv (X.blk scope x G2.objs.size s H fp) [] (none::σ) (upd H s.heap.objs.size (.lst [])) { s with heap:=h₁,toks:=s.toks+([]:List (Str×Value)).length } :=
  Ru S I hCle hf hlt old (Un.laid old (Nat.le_refl _) hD) (I.hok.laid old (Nat.le_refl _) ⟨Nat.zero_le _,[],0,.nil,hacc⟩) hns₁ hCn
 obtain ⟨W,⟨m0,w0⟩,turn⟩:=q s.heap.objs.size hD
 have loop:codeAny (model X.prog X.w) X.A (.compLoop (.ListComp elt [⟨.Name x px,iter,[],0⟩] scope pos) 0 (.ref it) (.ref s.heap.objs.size) (compEnvC scope (Eo scope X.env) G2.objs.size X.env))
   (RR (.ref s.heap.objs.size) G2.objs.size) { s with heap:=h₁,toks:=s.toks+([]:List (Str×Value)).length }:=by
  have fb:∀ {H':Hp},(∀ b∈fp,H' b=none)→∀ b∈fp,FpOk (X.blk scope x G2.objs.size s H fp) [] H' b:=fun hn b hb=>by
   refine ⟨hn b hb,((Hf (C:=G2.objs.size) S I hCle hf hlt).exf b hb).1,fun hz=>?_,.inl hb,((Hf (C:=G2.objs.size) S I hCle hf hlt).exf b hb).2 ,fun p hp=>absurd (show p∈([]:List (Addr×Obj)) from hp) (by simp)⟩
   exact (Hf (C:=G2.objs.size) S I hCle hf hlt).exfs b hb hz
  refine Hg (fun n s'=>∃ i o H',Inv (X.blk scope x G2.objs.size s H fp) [] (o::σ) H' s'∧tn i s'.heap∧(∀ b∈fp,H' b=none)∧W i n H') ?_ m0
   ⟨0,none,_,I4,T.keep 0 _ _ st fun b hb o e=>old b o e,fun b hb=>?_,w0⟩
  ·rintro n s3 ⟨i,o,H3,I3,st3,fr3,w3⟩
   rcases turn i n H3 w3 with ⟨stop,qn⟩ | ⟨go,step⟩
   ·refine thn (T.done (X.blk scope x G2.objs.size s H fp) rfl rfl rfl hc i [] s3 (o::σ) H3 (fun _ _=>False) I3 (fb fr3) st3 stop) fun r s4 ⟨hr,I4'⟩=>?_
    subst hr
    obtain ⟨m',hm',_⟩:=I4'.loc
    refine hRR _ _ s4 H3 m' qn (I.call' (ch:=fp) I4'.os I4'.base I4'.hok I4'.bare fun b hb=>?_) hm' I4'.free hCle
    obtain ⟨_,f1,f2,f3,f4,f5⟩:=hf b hb
    exact ⟨f3,f1,f4,f5⟩
   ·refine thn (T.item (X.blk scope x G2.objs.size s H fp) rfl rfl rfl hc i [] s3 (o::σ) H3 (fun _ _=>False) I3 (fb fr3) st3 go) fun r s4 ⟨u,hr,h4⟩=>?_
    subst hr
    refine thn h4 fun _ s5 ⟨xv,H5,I5,r5,y5,st5,fr5⟩=>?_
    have I5':=I5.pinned (fb fr5) (T.obj _ _ st5)
    refine thn (hg _ _ _ _ _ s5 (o::σ) H5 xv u (fun σ' H'=>σ' = some xv::σ∧H' = H5) I5' r5 ⟨rfl,rfl⟩) fun _ s6 ⟨σ6,H6,I6,e6,e6'⟩=>?_
    subst e6 e6'
    refine thn (he _ _ _ _ _ s6 _ _ _ I6 (step xv _ y5)) fun y s7 ⟨yv,H7,I7,r7,ys,hy,hz,m',hm,w7⟩=>?_
    refine thn (bY _ s7 _ H7 (.ref s.heap.objs.size) [yv] _ [y] (fun _ H'=>H' = upd H7 s.heap.objs.size (.lst (ys++[yv]))) I7 rfl (.cons r7 .nil) ⟨_,ys,yv,rfl,rfl,hy,hz,rfl⟩) fun _ s8 ⟨_,H8,I8,_,e8⟩=>?_
    subst e8
    refine ⟨m',hm,i+1,_,_,I8.unpinned,T.keep _ _ _ st5 fun b hb ob e=>(I8.pin (b,ob) (List.mem_append_right _ (List.mem_append_right _ (mem_pinsAt hb e)))).1,fun b hb=>?_,w7⟩
    obtain ⟨ob,e,_⟩:=T.obj _ _ st5 b hb
    exact (I8.pin (b,ob) (List.mem_append_right _ (List.mem_append_right _ (mem_pinsAt hb e)))).2.1
  ·rw [upd_ne (below b (hlt b hb)).2]
   exact (hf b hb).1
 refine codeAny_compStart_list loop ?_
 exact T.self _ 0 _ _ _ (T.keep 0 _ _ st fun b hb o e=>old b o e) loop
theorem abG (S:cL X scope x) (hc:X.calm=true) (hi:PI X (.Name x px) iter wi) (he:∀ C s H fp,PE (X.blk scope x C s H fp) elt te) (hg:∀ C s H fp,PG (X.blk scope x C s H fp) (.Name x px) (gName 0))
  (hs:∀ x,foldedSetIterable iter X.env x=pure x:=by intro _;rfl):PE X (.ListComp elt [⟨.Name x px,iter,[],0⟩] scope pos) (tLC wi te):=by
 intro pins s σ H Q I h
 have hnames:∀ y∈scope.names,y.2=.local→scope.names.lookup y.1=some .local:=fun y hy hl=>by
  have:=List.all_eq_true.mp S.loc y hy
  rw [hl] at this
  simpa using this
 rw [eval_ListComp]
 refine wpAny_comprehension_free (use:=none) rfl hs (BK (S.has I.ok)) S.kind hnames (thn (hi pins s σ H _ I h) fun v s1 h1=>thn h1 fun itv s2 h2=>?_)
 obtain ⟨it,fp,tn,J,H2,rfl,I2,T,st2,f2,q2⟩:=h2
 refine Ju S hc (RR:=fun acc C=>compPost (model X.prog X.w) X.A X.xe none (EP X pins σ Q) acc C) he hg I2 T st2 f2 q2 fun D C s' H' m' qD I' hm hn hC=>⟨m',hm,fun h' hs'=>?_⟩
 have neL:C≠X.env.locals:=Nat.ne_of_gt (Nat.lt_of_lt_of_le I2.lt hC)
 refine ⟨.ref D,H',I'.turned (it:=C) (t':=s'.toks) (fun b o hb e=>hs'.extBut b o hb e) hn neL (.inr (Nat.le_trans I2.sz hC)) (fun y c e z=>?_) (fun p hp z=>?_),rfl,qD⟩
 ·obtain ⟨_,o,ho,_⟩:=I2.cell y c e
  exact absurd (Heap.lt_size ho) (by rw [z];exact Nat.not_lt.mpr hC)
 ·exact absurd (Heap.lt_size (I2.pin p hp).1) (by rw [z];exact Nat.not_lt.mpr hC)
end
end L2
namespace L2
open PySem PySem.Spec PyProof.Rows
section
variable {X:Cx}
def Y9 (K:PySem.W.Frag):List V→Hp→VK→Prop:=fun xs H Q=>∃ (p:Addr) (ns:List Int),xs=[.ref p]∧SqL K H p (ns.map V.int)∧Q (.int ns.sum) H
theorem Jv (K:PySem.W.Frag) (p:Addr) (H:Hp) (Q:VK):Y9 K [.ref p] H Q=∃ ns:List Int,SqL K H p (ns.map V.int)∧Q (.int ns.sum) H:=by
 refine propext ⟨fun ⟨_,ns,e,h⟩=>?_,fun ⟨ns,h⟩=>⟨p,ns,rfl,h⟩⟩
 cases e;exact ⟨ns,h⟩
theorem Gd (hc:X.calm=true):CallR X (.builtin "sum") (Y9 X.K):=by
 intro pins s σ H xs us Q I r h
 obtain ⟨p,ns,rfl,hq,q⟩:=h
 obtain ⟨u,rfl,rx⟩:=vals1 r
 cases rx
 obtain ⟨its,rv,pl,hz⟩:=I.list hq
 have hi:IntsAre its ns:=intsAre_of rv
 obtain ⟨ys,e⟩:=hi.allInts.items
 have hns:ns=ys.toList.map (·.1):=by rw [←hi.numsOf,←nums_intItems,←e]
 have hl:=pl.isList
 rw [e] at hl
 refine sum_intListG (I.ok.hd hc) hl fun h' tk t' hk=>⟨.int ns.sum,H,I.kept hk,⟨t',?_⟩,q⟩
 rw [preSum_eq,List.take_of_length_le (by simp),←hns]
def Za (K:PySem.W.Frag):List V→Hp→VK→Prop:=fun xs H Q=>∃ (p:Addr) (ns:List Int),xs=[.ref p]∧SqL K H p (ns.map V.int)∧ns≠[]∧∀ M,M∈ns→(∀ a,a∈ns→M≤a)→Q (.int M) H
theorem Jw (K:PySem.W.Frag) (p:Addr) (H:Hp) (Q:VK):Za K [.ref p] H Q=∃ ns:List Int,SqL K H p (ns.map V.int)∧ns≠[]∧∀ M,M∈ns→(∀ a,a∈ns→M≤a)→Q (.int M) H:=by
 refine propext ⟨fun ⟨_,ns,e,h⟩=>?_,fun ⟨ns,h⟩=>⟨p,ns,rfl,h⟩⟩
 cases e;exact ⟨ns,h⟩
theorem Ge (hc:X.calm=true):CallR X (.builtin "min") (Za X.K):=by
 intro pins s σ H xs us Q I r h
 obtain ⟨p,ns,rfl,hq,hne,q⟩:=h
 obtain ⟨u,rfl,rx⟩:=vals1 r
 cases rx
 obtain ⟨its,rv,pl,hz⟩:=I.list hq
 have hi:IntsAre its ns:=intsAre_of rv
 obtain ⟨ys,e⟩:=hi.allInts.items
 have hns:ns=ys.toList.map (·.1):=by rw [←hi.numsOf,←nums_intItems,←e]
 have hsz:0<ys.size:=by
  have h3:=List.length_pos_iff.mpr hne
  rw [hns,List.length_map,Array.length_toList] at h3
  exact h3
 have hl:=pl.isList
 rw [e] at hl
 refine min_intList (I.ok.hd hc) hl hsz fun v h' tk hv hk=>?_
 obtain ⟨t,rfl⟩:=intItems_at hv
 obtain ⟨h1,h2⟩:=argBest_lt (numAt ys) (ys.size - 1)
 refine ⟨.int _,H,I.kept hk,⟨t,rfl⟩,q _ ?_ fun a ha=>?_⟩
 ·rw [hns,numAt_eq];exact getD_mem (by rw [List.length_map,Array.length_toList];omega)
 ·rw [hns] at ha
  obtain ⟨j,hj,rfl⟩:=mem_getD ha
  rw [List.length_map,Array.length_toList] at hj
  rw [←numAt_eq];exact h2 j (by omega)
def U6:V→List V→Hp→VK→Prop:=fun x vs H Q=>∃ (l:Addr) (ns:List Int) (i:Int) (j:Nat),x=.ref l∧vs=[.int i]∧H l=some (.lst (ns.map V.int))∧ns[j]? = some i∧(∀ m,m<j→ns[m]? ≠ some i)∧Q (.int (j:Nat)) H
theorem Gf (l:Addr) (i:Int) (H:Hp) (Q:VK):U6 (.ref l) [.int i] H Q=∃ ns:List Int,H l=some (.lst (ns.map V.int))∧∃ j:Nat,ns[j]? = some i∧(∀ m,m<j→ns[m]? ≠ some i)∧Q (.int (j:Nat)) H:=by
 refine propext ⟨fun ⟨_,ns,_,j,e1,e2,h,h'⟩=>?_,fun ⟨ns,h,j,h'⟩=>⟨l,ns,i,j,rfl,rfl,h,h'⟩⟩
 cases e1;cases e2;exact ⟨ns,h,j,h'⟩
theorem wH:YL X "list.index" U6:=by
 intro pins s σ H x vs v us Q I rx rv h
 obtain ⟨l,ns,i,j,rfl,rfl,hH,hj,hno,q⟩:=h
 cases rx
 obtain ⟨u,rfl,ru⟩:=rv.one
 obtain ⟨z,its,n,r,hl,e⟩:=I.lstM hH
 have hjl:j<ns.length:=(List.getElem?_eq_some_iff.mp hj).1
 have hlen:its.length=ns.length:=by rw [←hl,List.length_map]
 have h63:=line63
 rw [List.length_map] at z
 have at_:∀ (m:Nat) (hm:m<its.toArray.size),∃ y:Int,ns[m]? = some y∧Jh (.int i) its.toArray[m]=K3 (.int y) (.int i):=fun m hm=>by
  have hm':m<ns.length:=by simpa [hlen] using hm
  refine ⟨ns[m],List.getElem?_eq_getElem hm',?_⟩
  obtain ⟨w',hw,rw'⟩:=r.get (i:=m) (x:=.int ns[m]) (by rw [List.getElem?_map,List.getElem?_eq_getElem hm'];rfl)
  have e2:its.toArray[m]=w':=by
   have:its[m]? = some (its[m]'(by omega)):=List.getElem?_eq_getElem (by omega)
   rw [this] at hw
   simpa using hw
  rw [e2]
  exact Le rw' rfl
 refine call_meets F.slot_list_index ⟨_,e,rfl⟩ F.entry_list_index (F.args_list_index_2 _ _) (SeqAt.list_indexAt l its.toArray n none #[] u (Jh (.int i)) j (by simpa [hlen] using hjl) (by omega) ?_ ?_) ⟨e,?_,?_⟩
 ·obtain ⟨y,hy,e2⟩:=at_ j (by simpa [hlen] using hjl)
  rw [hj] at hy;cases hy
  rw [e2];simp [K3]
 ·intro m hm hmj
  obtain ⟨y,hy,e2⟩:=at_ m hm
  rw [e2]
  have:=hno m hmj
  rw [hy] at this
  simp [K3]
  intro z;exact this (by rw [z])
 ·intro y hy
  have hall:(ns.map V.int).all rG=true:=by simp [rG]
  exact oX ru rfl r hall y (by simpa using hy)
 ·exact ⟨.int (j:Nat),H,I.tok _,⟨_,rfl⟩,q⟩
end
def Rv (K:PySem.W.Frag) (a:Addr) (te:TE) (σ:St) (H1:Hp) (Q:VK):Prop :=
 ((∃ xs,SqL K H1 a xs)∧∀ D,H1 D=none→∃ W:Nat→Nat→Hp→Prop,(∃ m,W 0 m (upd H1 D (.lst [])))∧∀ i m H2,W i m H2 →
  ((Itl K a).stop i H2∧Q (.ref D) H2)∨((Itl K a).go i H2∧∀ x H',(Itl K a).yld i H2 x H'→te (some x::σ) H' fun y H3=>∃ ys,H3 D=some (.lst ys)∧ys.length<sizeLine∧∃ m',m'<m∧W (i+1) m' (upd H3 D (.lst (ys++[y]))))) ∨
 ((∃ xs,SqT K H1 a xs)∧∀ D,H1 D=none→∃ W:Nat→Nat→Hp→Prop,(∃ m,W 0 m (upd H1 D (.lst [])))∧∀ i m H2,W i m H2 →
  ((K1 K a).stop i H2∧Q (.ref D) H2)∨((K1 K a).go i H2∧∀ x H',(K1 K a).yld i H2 x H'→te (some x::σ) H' fun y H3=>∃ ys,H3 D=some (.lst ys)∧ys.length<sizeLine∧∃ m',m'<m∧W (i+1) m' (upd H3 D (.lst (ys++[y])))))
theorem U7 (K:PySem.W.Frag) (tl te:TE) (σ:St) (H:Hp) (Q:VK):tLC (iSq K tl) te σ H Q=tl σ H fun x H1=>FZ x fun a=>Rv K a te σ H1 Q:=rfl
theorem Rv.go {K:PySem.W.Frag} {a:Addr} {te:TE} {σ:St} {H:Hp} {Q:VK} {xs:List V} (hS:bA K H a xs) (hlen:xs.length<sizeLine) (Pv:Nat→List V→Hp→Prop) (h0:∀ H2,Same H H2→Pv 0 [] H2)
  (hst:∀ i ys H2 H3 D,H D=none→Pv i ys H2→(∀ b o,b≠D→H2 b=some o→H3 b=some o)→Pv i ys H3)
  (hs:∀ (i:Nat) (x:V) (ys:List V) (H2:Hp) (R:VK),xs[i]? = some x→ys.length=i→Pv i ys H2→Same H H2→(∀ y H3,Same H2 H3→Pv (i+1) (ys++[y]) H3→R y H3)→te (some x::σ) H2 R)
  (hd:∀ D ys H2,H D=none→H2 D=some (.lst ys)→ys.length=xs.length→Pv xs.length ys H2→Same H H2→Q (.ref D) H2):Rv K a te σ H Q:=by
 have W:∀ (D:Addr),H D=none→∀ (J:It),(∀ i H2,Same H H2→xs.length≤i→J.stop i H2)→(∀ i x H2,Same H H2→xs[i]? = some x→J.go i H2)→(∀ i H2 x H',Same H H2→J.yld i H2 x H'→H' = H2∧xs[i]? = some x) →
   ∃ W:Nat→Nat→Hp→Prop,(∃ m,W 0 m (upd H D (.lst [])))∧∀ i m H2,W i m H2 →
    (J.stop i H2∧Q (.ref D) H2)∨(J.go i H2∧∀ x H',J.yld i H2 x H'→te (some x::σ) H' fun y H3=>∃ ys,H3 D=some (.lst ys)∧ys.length<sizeLine∧∃ m',m'<m∧W (i+1) m' (upd H3 D (.lst (ys++[y])))):=by
  intro D hD J j1 j2 j3
  refine ⟨fun i m H2=>m=xs.length - i∧i≤xs.length∧∃ ys,ys.length=i∧H2 D=some (.lst ys)∧Pv i ys H2∧Same H H2,⟨xs.length,by simp,Nat.zero_le _,[],rfl,upd_same,h0 _ (Same.new hD),Same.new hD⟩,?_⟩
  rintro i m H2 ⟨rfl,hi,ys,hys,hD2,hP,hsm⟩
  by_cases hlt:i<xs.length
  ·refine .inr ⟨j2 i xs[i] H2 hsm (by simp [hlt]),fun x H' hy=>?_⟩
   obtain ⟨rfl,hx⟩:=j3 i H2 x H' hsm hy
   refine hs i x ys _ _ hx hys hP hsm fun y H3 h3 hP3=>⟨ys,h3 _ _ hD2,by omega,xs.length - (i+1),by omega,rfl,hlt,ys++[y],by simp [hys],upd_same,hst _ _ H3 _ D hD hP3 fun b o hb e=>by rw [upd_ne hb];exact e,fun b o e=>?_⟩
   rw [upd_ne (ne_of_none e hD)]
   exact h3 _ _ (hsm _ _ e)
  ·have e:i=xs.length:=by omega
   subst e
   exact .inl ⟨j1 _ _ hsm (Nat.le_refl _),hd D ys H2 hD hD2 hys hP hsm⟩
 rcases hS with h | h
 ·refine .inl ⟨⟨xs,h⟩,fun D hD=>W D hD (Itl K a) (fun i H2 hs hi=>⟨xs,hs.seq h,hi⟩) (fun i x H2 hs hx=>⟨xs,x,hs.seq h,hx⟩) fun i H2 x H' hs hy=>⟨hy.1,hy.2 xs (hs.seq h)⟩⟩
 ·refine .inr ⟨⟨xs,h⟩,fun D hD=>W D hD (K1 K a) (fun i H2 hs hi=>⟨xs,hs.Em h,hi⟩) (fun i x H2 hs hx=>⟨xs,x,hs.Em h,hx⟩) fun i H2 x H' hs hy=>⟨hy.1,hy.2 xs (hs.Em h)⟩⟩
theorem Rv.map {K:PySem.W.Frag} {a:Addr} {te:TE} {σ:St} {H:Hp} {Q:VK} {xs:List V} (hS:bA K H a xs) (hlen:xs.length<sizeLine) (f:V→V)
  (hs:∀ (i:Nat) (x:V) (H2:Hp) (R:VK),xs[i]? = some x→Same H H2→(∀ H3,Same H2 H3→R (f x) H3)→te (some x::σ) H2 R)
  (hd:∀ D H2,H D=none→H2 D=some (.lst (xs.map f))→Same H H2→Q (.ref D) H2):Rv K a te σ H Q:=by
 refine Rv.go hS hlen (fun i ys _=>ys=(xs.take i).map f) (fun _ _=>by simp) (fun i ys H2 H3 D _ h _=>h) (fun i x ys H2 R hx _ hp hsm hR=>hs i x H2 R hx hsm fun H3 h3=>hR _ _ h3 ?_) fun D ys H2 hD hD2 _ hp hsm=>hd D H2 hD (by rw [hD2,hp,List.take_of_length_le (Nat.le_refl _)]) hsm
 obtain ⟨hlt,e⟩:=List.getElem?_eq_some_iff.mp hx
 rw [hp,List.take_add_one,hx]
 simp
section
variable {X:Cx} {K:PySem.W.Frag}
theorem BL (h:X.K=K):IxR X (aaj K):=by subst h;exact bh
theorem aaq {o e:Expr} {es:List Expr} {name:Str} {T id:String} {r:V→List V→Hp→VK→Prop} {to:TE} {t:TA} {apos cpos:Pos} (hK:X.K=K) (pa:PlainAttrs T) (slot:Slot T name id) (hty:typeOf (.builtin id)=pure (.type "method_descriptor")) (hm:MtR X id r) (ho:PE X o to) (ha:PA X (e::es) t)
  (hbase:attributeBase o name X.env (eval o X.env)=eval o X.env:=by rfl)
  (hfew:((backTo cpos (starEach (e::es) X.env)).all (fun x=>!x.1) && (backToKw cpos (keywordEach [] X.env)).all (fun x=>x.1.isSome)
   && decide ((e::es).length+([]:List Keyword).length+(if ([]:List Keyword).isEmpty then 0 else 1)<30))=true:=by rfl)
  (hline:(apos.endLine == cpos.line)=true:=by rfl) (hs:starEach (e::es) X.env=(false,eval e X.env)::starEach es X.env:=by rfl) (hplain:(backTo cpos (starEach es X.env)).any (·.1)=false:=by rfl) :
  PE X (.Call (.Attribute o name apos) (e::es) [] cpos) (tBM K T r to t):=by
 subst hK
 exact abv pa slot hty hm ho ha hbase hfew hline hs hplain
end
end L2
namespace L2
open PySem PySem.Spec PyProof.Rows
def Pj (vs:List Int):TA:=fun _ H Q=>Q (vs.map V.int) H
def oZ:List Expr→Option (List Int)
 | []=>some []
 | .Constant (.int i) _ _::r=>(oZ r).map fun l=>i::l
 | _=>none
theorem Pk (vs:List Int) (σ:St) (H:Hp) (Q:List V→Hp→Prop):Pj vs σ H Q=Q (vs.map V.int) H:=rfl
theorem Pn {X:Cx}:∀ {es:List Expr} {vs:List Int},oZ es=some vs→PA X es (Pj vs)
 | [],vs,h=>by
  cases h
  exact pa_nil
 | e::r,vs,h=>by
  unfold oZ at h
  split at h
  ·rename_i e0;cases e0
  ·rename_i i j pos r' e0
   cases e0
   cases hr:oZ r with
   | none=>rw [hr] at h;cases h
   | some l =>
    rw [hr] at h
    cases h
    have ih:PA X r (Pj l):=Pn hr
    exact pa_cons pe_int ih
  ·cases h
end L2
namespace L2
open PySem PySem.Spec PyProof.Rows
theorem aM.abJ {P:Program} {w:World} {K:PySem.W.Frag} {mg:Str→Option Value} {base:Heap} {x:Str} {st:Stmt} {N ps:List Str} {k:Nat} {sp:Sp} {sc:Scope} {bd:List Stmt} (hsc:defScope st=sc) (hbd:defBody st=bd) (F:aM K mg x st ps) (S:FnScope N ps sc) (len:∀ vs H Q E,sp vs H Q E→vs.length=ps.length)
  (hbody:∀ (f:Addr) (cdv:Value) (A:Around) (outer:List Env) (s:Shared) (H:Hp) (vs:List V) (Q:VK) (E:XK),Room k (A.deeper (envOfC x sc s.heap.objs.size f cdv))→sp vs H Q E →
   ∃ t,PSs (cxOf CX0 P w K mg base N x sc f cdv A outer s H E).nox bd t∧t { nx:=fun _ H'=>Q .non H',rt:=Q } (L2.start N vs) H):Good P w K mg base CX0 (k+1) x ps sp:=by
 subst hsc hbd
 exact F.good S len hbody
theorem Fun.okL {P:Program} {w:World} {K:PySem.W.Frag} {mg:Str→Option Value} {base:Heap} {x qual:Str} {st:Stmt} {f:Addr} {fd:FuncData} {N ps:List Str} {k:Nat} {sp:Sp} {sc:Scope} {bd:List Stmt} (hsc:defScope st=sc) (hbd:defBody st=bd) (F:Fun K x qual st f fd) (S:FnScope N ps sc) (len:∀ vs H Q E,sp vs H Q E→vs.length=ps.length)
  (hbody:∀ (cdv:Value) (A:Around) (outer:List Env) (s:Shared) (H:Hp) (vs:List V) (Q:VK) (E:XK),Room k (A.deeper (envOfC qual sc s.heap.objs.size f cdv))→sp vs H Q E →
   ∃ t,PSs (cxOf CX0 P w K mg base N qual sc f cdv A outer s H E).nox bd t∧t { nx:=fun _ H'=>Q .non H',rt:=Q } (L2.start N vs) H):FnOk P w K mg base CX0 (k+1) f fd ps sp:=by
 subst hsc hbd
 exact F.ok S len hbody
end L2
namespace L2
open PySem PySem.Spec PyProof.Rows
structure QE (X:Cx) (e:Expr) (t:TE):Prop where h:PE X e t
structure QT (X:Cx) (e:Expr) (t:TT):Prop where h:PT X e t
structure QW (X:Cx) (e:Expr) (t:TT):Prop where h:PW X e t
structure QA (X:Cx) (es:List Expr) (t:TA):Prop where h:PA X es t
structure QS (X:Cx) (st:Stmt) (t:TS):Prop where h:PS X st t
structure QB (X:Cx) (st:List Stmt) (t:TS):Prop where h:PSs X st t
structure QI (X:Cx) (tg iter:Expr) (t:TI):Prop where h:PI X tg iter t
structure QG (X:Cx) (tg:Expr) (t:TG):Prop where h:PG X tg t
structure QO (X:Cx) (e:Option Expr) (t:TO):Prop where h:PO X e t
section
variable {X:Cx} {K:PySem.W.Frag} {a b c e o i l:Expr} {es:List Expr} {ta tb tc te to ti tl td ty tv:TE} {t:TA} {tA tB':TT} {pos p apos cpos pos' px:Pos} {x:Str} {rest body els:List Stmt} {st:Stmt} {tS uS:TS} {tg iter value:Expr} {wi:TI} {g:TG}
theorem au {i j pos}:QE X (.Constant (.int i) j pos) (tC (.int i)):=⟨pe_int⟩
theorem mK {b j pos}:QE X (.Constant (.bool b) j pos) (tC (.bl b)):=⟨pe_bl⟩
theorem aar {j pos}:QE X (.Constant .none j pos) (tC .non):=⟨Zx⟩
theorem nJ {x j pos}:QE X (.Constant (.str x) j pos) (tC (.str x)):=⟨Zy⟩
theorem qv (i:Nat) {x:Str} {pos:Pos} (hN:X.N[i]? = some x:=by rfl) (hv:Vis X.env.scope x:=by first | exact Or.inl rfl | exact Or.inr (Or.inl rfl) | exact Or.inr (Or.inr rfl)) (hd:(x == ("__debug__":Str))=false:=by decide)
  (hcd:(x == ("__classdict__":Str))=false:=by decide):QE X (.Name x pos) (tVar i):=⟨pe_var hN hv hd hcd⟩
theorem Jx {n:String} (hm:X.mg x=none) (hv:bootBuiltins x=some (.type n)) (hg:Gl X x:=by rfl) (hn:x ≠ "__name__":=by decide) (hd:(x == ("__debug__":Str))=false:=by decide):QE X (.Name x pos) (tC (.ty n)):=⟨abA hm hv hg hn hd⟩
theorem mL {i:Int} (h:GI X.mg x i) (hg:Gl X x:=by rfl) (hd:(x == ("__debug__":Str))=false:=by decide):QE X (.Name x pos) (tC (.int i)):=⟨abB h hg hd⟩
theorem aO {op:Operator} {r:R2} (ho:OpR X (binaryOp op) r) (ha:QE X a ta) (hb:QE X b tb):QE X (.BinOp a op b pos) (tOp r ta tb):=⟨pe_op ho ha.h hb.h⟩
theorem aas (ha:QE X a ta):QE X (.UnaryOp .Not a pos) (SX ta):=⟨ZK ha.h⟩
theorem U8 {op} (ha:QE X a ta):QE X (.BoolOp op [a] pos) ta:=⟨ZG ha.h⟩
theorem U9 (ha:QE X a ta) (hb:QE X (.BoolOp .And (b::es) pos) tb):QE X (.BoolOp .And (a::b::es) pos) (SQ ta tb):=⟨ZJ ha.h hb.h⟩
theorem Jy (hc:QT X c tA) (ha:QE X a ta) (hb:QE X b tb):QE X (.IfExp c a b pos) (tIf tA ta tb):=⟨S5 hc.h ha.h hb.h⟩
theorem cu (h:QA X es t):QE X (.List es pos) (tLst t):=⟨pe_lst h.h⟩
theorem Hh {x1} (h:QA X es t):QE X (.Tuple es x1 pos) (Z1 t):=⟨Z2 h.h⟩
theorem kY:QE X (.Dict [] [] pos) tDNewK:=⟨pe_dnewK⟩
theorem pZ:QO X none G4:=⟨Xi⟩
theorem gO (h:QE X e te):QO X (some e) (Tp te):=⟨Xj h.h⟩
theorem gP {r:V→Option Int→Option Int→Hp→VK→Prop} {lo hi:Option Expr} {tlo thi:TO} {p2:Pos} (hr:SlR X r) (he:QE X e te) (hl:QO X lo tlo) (hu:QO X hi thi):QE X (.Subscript e (.Slice lo hi none p2) pos) (tSl r te tlo thi):=⟨Tq hr he.h hl.h hu.h⟩
theorem bD (hu:X.A.units+1<cLine) (ho:QE X o td) (hi:QE X i ty) (hs:aad i):QE X (.Subscript o i pos) (Ob td ty):=⟨Xn hu ho.h hi.h hs⟩
theorem aY {r:R2} (hr:IxR X r) (ha:QE X a ta) (hb:QE X b tb) (hs:PlainIx b):QE X (.Subscript a b pos) (tOp r ta tb):=⟨pe_ix hr ha.h hb.h hs⟩
theorem aA {CX:CXT} {k:Nat} {ps:List Str} {sp:Sp} {E:XK} (g:Good X.prog X.w X.K X.mg X.base CX k x ps sp) (hr:Room k X.A) (hx:Passes CX X E)
  (ha:QA X (e::es) t) (hg:Gl X x:=by rfl) (hdb:(x == ("__debug__":Str))=false:=by decide) (he:starEach (e::es) X.env=(false,eval e X.env)::starEach es X.env:=by rfl) (hpl:(backTo pos (starEach es X.env)).any (·.1)=false:=by rfl) :
  QE X (.Call (.Name x p) (e::es) [] pos) (tCall sp [] E t):=⟨Ua g hr hx ha.h hg hdb he hpl⟩
theorem aL {id:String} {r:List V→Hp→VK→Prop} (hc:CallR X (.builtin id) r) (hg:Gl X x) (hm:X.mg x=none) (hv:bootBuiltins x=some (.builtin id)) (ha:QA X (e::es) t) (hn:x ≠ "__name__":=by decide) (hdb:(x == ("__debug__":Str))=false:=by decide)
  (he:starEach (e::es) X.env=(false,eval e X.env)::starEach es X.env:=by rfl) (hpl:(backTo pos (starEach es X.env)).any (·.1)=false:=by rfl):QE X (.Call (.Name x p) (e::es) [] pos) (tCB r t):=⟨pe_callB hc hg hm hv ha.h hn hdb he hpl⟩
theorem gH {T:String} {r:List V→Hp→VK→Prop} (hc:CallR X (.type T) r) (hg:Gl X x) (hm:X.mg x=none) (hv:bootBuiltins x=some (.type T)) (ha:QA X (e::es) t) (hn:x ≠ "__name__":=by decide) (hdb:(x == ("__debug__":Str))=false:=by decide)
  (he:starEach (e::es) X.env=(false,eval e X.env)::starEach es X.env:=by rfl) (hpl:(backTo pos (starEach es X.env)).any (·.1)=false:=by rfl):QE X (.Call (.Name x p) (e::es) [] pos) (tCB r t):=⟨Rq hc hg hm hv ha.h hn hdb he hpl⟩
theorem fU {name:Str} {T id:String} {r:V→List V→Hp→VK→Prop} (hK:X.K=K) (pa:PlainAttrs T) (slot:Slot T name id) (hty:typeOf (.builtin id)=pure (.type "method_descriptor")) (hm:MtR X id r) (ho:QE X o to) (ha:QA X (e::es) t)
  (hbase:attributeBase o name X.env (eval o X.env)=eval o X.env:=by rfl)
  (hfew:((backTo cpos (starEach (e::es) X.env)).all (fun x=>!x.1) && (backToKw cpos (keywordEach [] X.env)).all (fun x=>x.1.isSome)
   && decide ((e::es).length+([]:List Keyword).length+(if ([]:List Keyword).isEmpty then 0 else 1)<30))=true:=by rfl)
  (hline:(apos.endLine == cpos.line)=true:=by rfl) (hs:starEach (e::es) X.env=(false,eval e X.env)::starEach es X.env:=by rfl) (hplain:(backTo cpos (starEach es X.env)).any (·.1)=false:=by rfl) :
  QE X (.Call (.Attribute o name apos) (e::es) [] cpos) (tBM K T r to t):=⟨aaq hK pa slot hty hm ho.h ha.h hbase hfew hline hs hplain⟩
theorem Hi {name:Str} {T id:String} {r:V→List V→Hp→VK→Prop} (hK:X.K=K) (pa:PlainAttrs T) (slot:Slot T name id) (hty:typeOf (.builtin id)=pure (.type "method_descriptor")) (hm:MtR X id r) (ho:QE X o to)
  (hbase:attributeBase o name X.env (eval o X.env)=eval o X.env:=by rfl) (hline:(apos.endLine == cpos.line)=true:=by rfl):QE X (.Call (.Attribute o name apos) [] [] cpos) (Z9 K T r to):=by
 subst hK
 exact ⟨aac pa slot hty hm ho.h hbase hline⟩
theorem Pq {op:CmpOp} {r:R2} (ho:OpR X (compareOp op) r) (ha:QE X a ta) (hb:QE X b tb) (hm:behindInMarks op b=false):QE X (.Compare a [op] [b] pos) (tOp r ta tb):=⟨pe_cmpR ho ha.h hb.h hm⟩
theorem BP {scope:Scope} (S:cL X scope x) (hc:X.calm=true) (hi:QI X (.Name x px) iter wi) (he:∀ C s H fp,QE (X.blk scope x C s H fp) e te) (hg:∀ C s H fp,QG (X.blk scope x C s H fp) (.Name x px) (gName 0))
  (hs:∀ x,foldedSetIterable iter X.env x=pure x:=by intro _;rfl):QE X (.ListComp e [⟨.Name x px,iter,[],0⟩] scope pos) (tLC wi te):=⟨abG S hc hi.h (fun C s H fp=>(he C s H fp).h) (fun C s H fp=>(hg C s H fp).h) hs⟩
theorem aN {op:CmpOp} {r:R2} (ho:OpR X (compareOp op) r) (ha:QE X a ta) (hb:QE X b tb) (hm:behindInMarks op b=false):QT X (.Compare a [op] [b] pos) (tTest (tOp r ta tb)):=⟨pt_cmpR ho ha.h hb.h hm⟩
theorem Va (hu:X.A.units+1<cLine) (hi:QE X i ty) (ho:QE X o td) (h1:behindInMarks .In o=false:=by first | exact nobehind _ (by decide) (by decide) | rfl):QT X (.Compare i [.In] [o] pos) (tB (tDIn ty td)):=⟨pt_cmp (pc_din hu hi.h ho.h) h1⟩
theorem o7 (hu:X.A.units+1<cLine) (hi:QE X i ty) (ho:QE X o td) (h1:behindInMarks .NotIn o=false:=by first | exact nobehind _ (by decide) (by decide) | rfl):QT X (.Compare i [.NotIn] [o] pos) (tB (tDNotIn ty td)):=⟨pt_cmp (pc_dnotin hu hi.h ho.h) h1⟩
theorem p8 (ha:QT X a tA):QT X (.UnaryOp .Not a pos) (ZD tA):=⟨ZF ha.h⟩
theorem qb (h:QE X e te) (he:∀ whole,isTrue e X.env whole=(do let v ←whole;standAt e.pos;holding [v] (truthy v)):=by intro _;rfl):QT X e (tB te):=⟨Zz h.h he⟩
theorem QW.qt (h:QW X e tA):QT X e tA:=⟨h.h.pt⟩
theorem wI (ha:QT X a tA):QW X (.BoolOp .And [a] pos) tA:=⟨pw_and1 ha.h⟩
theorem qd (ha:QT X a tA):QW X (.BoolOp .Or [a] pos) tA:=⟨pw_or1 ha.h⟩
theorem yM (ha:QT X a tA) (hb:QW X (.BoolOp .And (b::es) pos) tB'):QW X (.BoolOp .And (a::b::es) pos) (ZC tA tB'):=⟨pw_and ha.h hb.h⟩
theorem wJ (ha:QT X a tA) (hb:QW X (.BoolOp .Or (b::es) pos) tB'):QW X (.BoolOp .Or (a::b::es) pos) (tOr tA tB'):=⟨pw_or ha.h hb.h⟩
theorem ak:QA X [] tNil:=⟨pa_nil⟩
theorem aj (ha:QE X e te) (hr:QA X es t) (hs:starEach (e::es) X.env=(false,eval e X.env)::starEach es X.env:=by rfl):QA X (e::es) (tCons te t):=⟨pa_cons ha.h hr.h hs⟩
theorem Xx {vs:List Int} (h:oZ es=some vs):QA X es (Pj vs):=⟨Pn h⟩
theorem bF:QB X [] tNext:=⟨pss_nil⟩
theorem ao (h1:QS X st tS) (h2:QB X rest uS):QB X (st::rest) (tSeq tS uS):=⟨pss_cons h1.h h2.h⟩
theorem aq (h1:QS X st tS):QB X [st] tS:=⟨pss_one h1.h⟩
theorem cW:QS X st S6:=⟨S7⟩
theorem aP (he:QE X e te) (hs:swapsWith e none pos.line X.env=pure false:=by rfl):QS X (.Expr e pos) (tDrop te):=⟨ps_expr he.h hs⟩
theorem aU (he:QE X e te):QS X (.Return (some e) pos) (tRet te):=⟨ps_ret he.h⟩
theorem bM (hc:QT X c tA) (ha:QB X body tS) (hb:QB X els uS):QS X (.If c body els pos) (tIfS tA tS uS):=⟨ps_if hc.h ha.h hb.h⟩
theorem kZ (hp:PassesOwn (model X.prog X.w) X.A X.env X.xe) (hc:QT X c tA) (hb:QB X body tS):QS X (.While c body [] pos) (K7 tA tS):=⟨Ti hp hc.h hb.h⟩
theorem cB (hp:PassesOwn (model X.prog X.w) X.A X.env X.xe) (hc:X.calm=true) (hi:QI X tg iter wi) (hg:QG X tg g) (hb:QB X body tS)
  (hs:∀ x,foldedSetIterable iter X.env x=pure x:=by intro _;rfl):QS X (.For tg iter body [] pos) (tFor wi g tS):=⟨ps_for hp hc hi.h hg.h hb.h hs⟩
theorem aB {i:Nat} (hN:X.N.Nodup) (hi:X.N[i]? = some x) (hx:Loc X.env.scope x) (he:QE X e te) (hs:swapsWith e (some (.Name x pos')) pos.line X.env=pure false:=by rfl) (hf:X.fn x=true∨X.env.scope.names.lookup x=some .local:=by first | exact .inl rfl | exact .inr rfl | assumption) :
  QS X (.Assign [.Name x pos'] e pos) (tAsg te (gName i)):=⟨ps_set hN hi hx he.h hs hf⟩
theorem BR (he:QE X e te) (hg:QG X tg g) (hs:swapsWithSole [tg] e pos.line X.env=pure false:=by rfl) (hw:swappedStores [tg] e X.env=pure none:=by rfl) (h1:(assignEach [tg] X.env).map (·.2)=[assign tg X.env]:=by rfl):QS X (.Assign [tg] e pos) (tAsg te g):=⟨ZV he.h hg.h hs hw h1⟩
theorem jd (hu:X.A.units+1<cLine) (ho:QE X o td) (hi:QE X i ty) (hv:QE X value tv) (hs:swapsWith value (some (.Subscript o i pos')) pos.line X.env=pure false):QS X (.Assign [.Subscript o i pos'] value pos) (sDPut td ty tv):=⟨ps_dput hu ho.h hi.h hv.h hs⟩
theorem bZ (hg:Gl X "range") (hm:X.mg "range" = none) (ha:QA X [a] t) (hs:starEach [a] X.env=[(false,eval a X.env)]:=by rfl):QI X tg (.Call (.Name "range" p) [a] [] pos) (NP t):=⟨Rj hg hm ha.h hs⟩
theorem yN (hg:Gl X "range") (hm:X.mg "range" = none) (ha:QA X [a,b] t) (hs:starEach [a,b] X.env=[(false,eval a X.env),(false,eval b X.env)]:=by rfl) (hs2:starEach [b] X.env=[(false,eval b X.env)]:=by rfl):QI X tg (.Call (.Name "range" p) [a,b] [] pos) (NQ t):=⟨Rk hg hm ha.h hs hs2⟩
theorem o8 (hl:QE X l tl):QI X tg l (iSq X.K tl):=⟨abC hl.h⟩
theorem aR {i:Nat} (hN:X.N.Nodup) (hi:X.N[i]? = some x) (hx:Loc X.env.scope x) (hf:X.fn x=true∨X.env.scope.names.lookup x=some .local:=by first | exact .inl rfl | exact .inr rfl | assumption):QG X (.Name x pos) (gName i):=⟨pg_name hN hi hx hf⟩
theorem BW {tS':GZ} (ho:QE X o to) (hi:QE X i ti) (hs:S8 X tS')
  (ha:∀ v,assign (.Subscript o i pos) X.env v=(do
   let ov ←holding [v] (eval o X.env)
   let iv ←holding [v,ov] (eval i X.env)
   standAt pos
   holding [v,ov,iv] (setItem ov iv v)
   release [v,ov,iv] []):=by intro _;rfl):QG X (.Subscript o i pos) (ZR to ti tS'):=⟨ZS ho.h hi.h hs ha⟩
end
theorem aM.aZ {P:Program} {w:World} {K:PySem.W.Frag} {mg:Str→Option Value} {base:Heap} {x:Str} {st:Stmt} {N ps:List Str} {k:Nat} {sp:Sp} {sc:Scope} {bd:List Stmt} (hsc:defScope st=sc) (hbd:defBody st=bd) (F:aM K mg x st ps) (S:FnScope N ps sc) (len:∀ vs H Q E,sp vs H Q E→vs.length=ps.length)
  (hbody:∀ (f:Addr) (cdv:Value) (A:Around) (outer:List Env) (s:Shared) (H:Hp) (vs:List V) (Q:VK) (E:XK),Room k (A.deeper (envOfC x sc s.heap.objs.size f cdv))→sp vs H Q E →
   ∃ t,QB (cxOf CX0 P w K mg base N x sc f cdv A outer s H E).nox bd t∧t { nx:=fun _ H'=>Q .non H',rt:=Q } (L2.start N vs) H):Good P w K mg base CX0 (k+1) x ps sp :=
 F.abJ hsc hbd S len fun f cdv A outer s H vs Q E hr h=>let ⟨t,h1,h2⟩:=hbody f cdv A outer s H vs Q E hr h;⟨t,h1.h,h2⟩
theorem Fun.okQ {P:Program} {w:World} {K:PySem.W.Frag} {mg:Str→Option Value} {base:Heap} {x qual:Str} {st:Stmt} {f:Addr} {fd:FuncData} {N ps:List Str} {k:Nat} {sp:Sp} {sc:Scope} {bd:List Stmt} (hsc:defScope st=sc) (hbd:defBody st=bd) (F:Fun K x qual st f fd) (S:FnScope N ps sc) (len:∀ vs H Q E,sp vs H Q E→vs.length=ps.length)
  (hbody:∀ (cdv:Value) (A:Around) (outer:List Env) (s:Shared) (H:Hp) (vs:List V) (Q:VK) (E:XK),Room k (A.deeper (envOfC qual sc s.heap.objs.size f cdv))→sp vs H Q E →
   ∃ t,QB (cxOf CX0 P w K mg base N qual sc f cdv A outer s H E).nox bd t∧t { nx:=fun _ H'=>Q .non H',rt:=Q } (L2.start N vs) H):FnOk P w K mg base CX0 (k+1) f fd ps sp :=
 F.okL hsc hbd S len fun cdv A outer s H vs Q E hr h=>let ⟨t,h1,h2⟩:=hbody cdv A outer s H vs Q E hr h;⟨t,h1.h,h2⟩
end L2
namespace L2
open PySem PySem.Spec PyProof.Rows
section
variable {t1 t2 t3 t4 t5 t6 t7 t8 u:TS} {D:Ends} {σ:St} {H:Hp}
theorem aat (R:St→Hp→Prop) (ht:∀ N:St→Hp→Prop,(∀ σ' H',R σ' H'→N σ' H')→tSeq t1 (tSeq t2 t3) { D with nx:=N } σ H) (hu:∀ σ' H',R σ' H'→u D σ' H'):tSeq t1 (tSeq t2 (tSeq t3 u)) D σ H:=ht (u D) hu
theorem aau (R:St→Hp→Prop) (ht:∀ N:St→Hp→Prop,(∀ σ' H',R σ' H'→N σ' H')→tSeq t1 (tSeq t2 (tSeq t3 (tSeq t4 t5))) { D with nx:=N } σ H) (hu:∀ σ' H',R σ' H'→u D σ' H'):tSeq t1 (tSeq t2 (tSeq t3 (tSeq t4 (tSeq t5 u)))) D σ H:=ht (u D) hu
end
end L2
namespace L2
open PySem PySem.Spec PyProof.Rows
section
variable {X:Cx} {tg:Expr}
end
end L2
namespace L2
open PySem PySem.Spec PyProof.Rows
section
variable {X:Cx}
end
section
variable {X:Cx} {y:Str} {px:Pos}
end
end L2
namespace My
open PySem L2
abbrev vI (n:Nat):V:=.int (n:Int)
theorem aD {n:Nat} (h:n≤1000000):n<sizeLine:=Nat.lt_of_le_of_lt h (by decide)
theorem yO {j:Int} (h0:0≤j) (h:j<1000000000000):j.natAbs.log2<9000:=by
 have:j.natAbs<2 ^ 9000:=by
  have h1:j.natAbs<1000000000000:=by omega
  exact Nat.lt_of_lt_of_le h1 (by decide +kernel)
 by_cases hz:j.natAbs=0
 ·rw [hz];decide
 ·exact (Nat.log2_lt hz).2 this
theorem gQ {i j:Int} (h0:0<j) (h:j<1000000000000):YM i j:=⟨h0,yO (by omega) h⟩
def fl (b n:Nat):List Nat:=if h:2≤b∧b≤n then n % b::fl b (n / b) else [n]
termination_by n
decreasing_by exact Nat.div_lt_self (by omega) h.1
theorem rH {b n:Nat} (h:n<b):fl b n=[n]:=by rw [fl,dif_neg (by omega)]
theorem u6 {b n:Nat} (hb:2≤b) (h:b≤n):fl b n=n % b::fl b (n / b):=by rw [fl,dif_pos ⟨hb,h⟩]
theorem Pr {b n:Nat}:fl b n≠[]:=by rw [fl];split <;> simp
theorem Vb {b:Nat} (hb:2≤b):∀ (n:Nat),∀ d∈fl b n,d<b:=by
 intro n
 induction n using Nat.strongRecOn with
 | _ n ih =>
  intro d hd
  by_cases h:b≤n
  ·rw [u6 hb h] at hd
   rcases List.mem_cons.mp hd with e | e
   ·rw [e];exact Nat.mod_lt _ (by omega)
   ·exact ih _ (Nat.div_lt_self (by omega) (by omega)) d e
  ·rw [rH (by omega)] at hd
   have:=List.mem_singleton.mp hd
   omega
theorem BZ {b:Nat} (hb:2≤b):∀ (k n:Nat),0<k→n<b ^ k→(fl b n).length≤k:=by
 intro k
 induction k with
 | zero=>intro n h _;omega
 | succ k ih =>
  intro n _ h
  by_cases hn:b≤n
  ·rw [u6 hb hn,List.length_cons]
   have hk:0<k:=by
    rcases Nat.eq_zero_or_pos k with e | e
    ·subst e;rw [Nat.pow_one] at h;omega
    ·exact e
   have:n / b<b ^ k:=by
    rw [Nat.div_lt_iff_lt_mul (by omega)]
    rw [Nat.pow_succ] at h;exact h
   have:=ih (n / b) hk this
   omega
  ·rw [rH (by omega)];simp
def val (b:Nat):List Nat→Nat
 | []=>0
 | d::r=>d+b*val b r
theorem aav {b:Nat} (hb:2≤b):∀ n:Nat,val b (fl b n)=n:=by
 intro n
 induction n using Nat.strongRecOn with
 | _ n ih =>
  by_cases h:b≤n
  ·rw [u6 hb h,val,ih _ (Nat.div_lt_self (by omega) (by omega))]
   exact Nat.mod_add_div n b
  ·rw [rH (by omega)];simp [val]
theorem aaw {b:Nat} (hb:2≤b):∀ n:Nat,(fl b n).length=1∨(fl b n).getLast? ≠ some 0:=by
 intro n
 induction n using Nat.strongRecOn with
 | _ n ih =>
  by_cases h:b≤n
  ·right
   rw [u6 hb h]
   rw [List.getLast?_cons]
   have hne:=@Pr b (n / b)
   have hd:1≤n / b:=Nat.le_div_iff_mul_le (by omega) |>.2 (by omega)
   intro e
   have e2:(fl b (n / b)).getLast? = some 0:=by
    cases q:(fl b (n / b)).getLast? with
    | none=>exact absurd (List.getLast?_eq_none_iff.mp q) hne
    | some x=>rw [q] at e;simpa using e
   rcases ih (n / b) (Nat.div_lt_self (by omega) (by omega)) with h1 | h1
   ·by_cases h2:b≤n / b
    ·rw [u6 hb h2,List.length_cons] at h1
     have:=List.length_pos_iff.mpr (@Pr b (n / b / b))
     omega
    ·rw [rH (by omega)] at e2
     simp at e2
     omega
   ·exact h1 e2
  ·left;rw [rH (by omega)];rfl
def cell (ns:List Int) (k:Nat):Int:=ns.getD k 0
def mixed (c p:Int):Int:=((c % 2147483647+7919*p+17)*48271 % 2147483647+101*p)*69621 % 2147483629
def wt (ws:List Nat) (d:Nat):Nat:=ws.getD d 0
def fall (ws:List Nat) (n:Nat):Nat:=((fl ws.length n).map (wt ws)).sum
theorem Ca:∀ l:List Nat,(l.map (fun d:Nat=>(d:Int))).sum=((l.sum:Nat):Int)
 | []=>rfl
 | x::r=>by simp only [List.map_cons,List.sum_cons,Ca r,Int.natCast_add]
theorem Xy (l:List Nat):l.reverse.sum=l.sum:=by
 induction l with
 | nil=>rfl
 | cons x r ih=>simp only [List.reverse_cons,List.sum_append,List.sum_cons,List.sum_nil,ih];omega
theorem Vc {ws:List Nat} {d:Nat} (h:d<ws.length):ws[d]? = some (wt ws d):=by
 unfold wt
 rw [List.getD_eq_getElem?_getD,List.getElem?_eq_getElem h]
 rfl
theorem mO {ws:List Nat} {d:Nat} (h:d<ws.length):atI (ws.map vI) (d:Int)=some (vI (wt ws d)):=atI_nat (by rw [List.getElem?_map,Vc h];rfl)
theorem Gg {ws:List Nat} {m:Nat} (h:∀ x∈ws,x≤m) (d:Nat):wt ws d≤m:=by
 unfold wt
 rw [List.getD_eq_getElem?_getD]
 cases e:ws[d]? with
 | none=>exact Nat.zero_le _
 | some x=>exact h x (List.mem_of_getElem? e)
theorem wK {ws:List Nat} (hw:∀ x∈ws,x≤50) (n:Nat):fall ws n≤50*(fl ws.length n).length:=by
 unfold fall
 generalize fl ws.length n=l
 induction l with
 | nil=>simp
 | cons x r ih =>
  simp only [List.map_cons,List.sum_cons,List.length_cons]
  have:=Gg hw x
  omega
theorem dH {x:Int} {m:Nat} (h:0<m):∃ r:Nat,x % (m:Int)=(r:Int)∧r<m:=by
 have h0:0≤x % (m:Int):=Int.emod_nonneg _ (by omega)
 have h1:x % (m:Int)<(m:Int):=Int.emod_lt_of_pos _ (by omega)
 exact ⟨(x % (m:Int)).toNat,by omega,by omega⟩
theorem jU {n i:Nat} (h:i<n):ixN n (i:Int)=some i:=by
 unfold ixN
 rw [if_pos (by omega),if_pos (by omega)]
 rfl
theorem Vd {b:Nat} (hb:2≤b):∀ ds:List Nat,(∀ d∈ds,d<b)→val b ds<b ^ ds.length
 | [],_=>by simp [val]
 | d::r,h=>by
  have h1:=Vd hb r fun x hx=>h x (List.mem_cons_of_mem _ hx)
  have h2:=h d List.mem_cons_self
  rw [val,List.length_cons,Nat.pow_succ,Nat.mul_comm (b ^ r.length) b]
  have h3:b*(val b r+1)≤b*b ^ r.length:=Nat.mul_le_mul_left _ h1
  rw [Nat.mul_add] at h3
  omega
def num (b:Nat) (rs:List Nat):Nat:=val b rs.reverse
theorem Ve (b:Nat) (rs:List Nat) (d:Nat):num b (rs++[d])=num b rs*b+d:=by
 unfold num
 rw [List.reverse_append,List.reverse_singleton,List.singleton_append,val,Nat.mul_comm]
 omega
theorem Cd {b:Nat} {rs:List Nat} {i d:Nat} (h:rs[i]? = some d):num b (rs.take (i+1))=num b (rs.take i)*b+d:=by
 rw [List.take_add_one,h]
 exact Ve b _ d
theorem mQ {ws:List Nat} {n:Nat} (h:n<ws.length):fall ws n=wt ws n:=by unfold fall;rw [rH h];simp
theorem Pu {ws:List Nat} {n:Nat} (hb:2≤ws.length) (h:ws.length≤n):fall ws n=wt ws (n % ws.length)+fall ws (n / ws.length):=by unfold fall;rw [u6 hb h];simp
theorem Gh {ws:List Nat} (hb:2≤ws.length) (n:Nat):fall ws n=wt ws (n % ws.length)+(if n / ws.length=0 then 0 else fall ws (n / ws.length)):=by
 by_cases h:ws.length≤n
 ·have:0<n / ws.length:=Nat.div_pos h (by omega)
  rw [Pu hb h,if_neg (by omega)]
 ·rw [mQ (by omega),Nat.mod_eq_of_lt (by omega),if_pos (Nat.div_eq_of_lt (by omega))];rfl
theorem wL {b:Nat} (hb:2≤b):65536≤b ^ 1001:=by
 have h1:(2:Nat) ^ 16≤2 ^ 1001:=Nat.pow_le_pow_right (by decide) (by decide)
 have h2:(2:Nat) ^ 1001≤b ^ 1001:=Nat.pow_le_pow_left hb 1001
 have h3:(2:Nat) ^ 16=65536:=by decide
 omega
theorem Ce {ws:List Nat} (hb:2≤ws.length) (hw:∀ x∈ws,x≤50) {n:Nat} (h:n<ws.length ^ 1001):fall ws n≤50050:=by
 have h1:=wK hw n
 have h2:=BZ hb 1001 n (by decide) h
 omega
def it (f:Nat→Nat) (n:Nat):Nat→Nat
 | 0=>n
 | i+1=>f (it f n i)
theorem wM (f:Nat→Nat) (n:Nat):∀ i,it f n (i+1)=it f (f n) i
 | 0=>rfl
 | i+1=>by rw [it,wM f n i,it]
theorem fH (f:Nat→Nat) (n i:Nat):∀ j,it f n (i+j)=it f (it f n i) j
 | 0=>rfl
 | j+1=>by rw [←Nat.add_assoc,it,fH f n i j,it]
def path (f:Nat→Nat) (n k:Nat):List Nat:=(List.range k).map (it f n)
theorem gJ (f:Nat→Nat) (n k:Nat):path f n (k+1)=path f n k++[it f n k]:=by unfold path;rw [List.range_succ,List.map_append];rfl
theorem bf (f:Nat→Nat) (n k:Nat):(path f n k).length=k:=by unfold path;rw [List.length_map,List.length_range]
theorem bW {f:Nat→Nat} {n k i:Nat} (h:i<k):(path f n k)[i]? = some (it f n i):=by unfold path;rw [List.getElem?_map,List.getElem?_range h];rfl
theorem bw {f:Nat→Nat} {n k x:Nat}:x∈path f n k ↔ ∃ i,i<k∧it f n i=x:=by
 unfold path
 rw [List.mem_map]
 exact ⟨fun ⟨i,hi,e⟩=>⟨i,List.mem_range.mp hi,e⟩,fun ⟨i,hi,e⟩=>⟨i,List.mem_range.mpr hi,e⟩⟩
theorem fB {l:List Nat} (h:l.Nodup) {i j x:Nat} (hi:l[i]? = some x) (hj:l[j]? = some x):i=j:=by
 obtain ⟨h1,e1⟩:=List.getElem?_eq_some_iff.mp hi
 obtain ⟨h2,e2⟩:=List.getElem?_eq_some_iff.mp hj
 exact (List.getElem_inj h).mp (e1.trans e2.symm)
theorem yP:∀ (n:Nat) (l:List Nat),l.Nodup→(∀ x∈l,x<n)→l.length≤n
 | 0,l,_,h=>by
  cases l with
  | nil=>exact Nat.le_refl _
  | cons x r=>exact absurd (h x List.mem_cons_self) (Nat.not_lt_zero _)
 | n+1,l,hn,h=>by
  have h1:(l.erase n).length≤n:=yP n (l.erase n) (hn.erase n) fun x hx=>by
   obtain ⟨h1,h2⟩:=hn.mem_erase_iff.mp hx
   have:=h x h2
   omega
  by_cases hm:n∈l
  ·rw [List.length_erase_of_mem hm] at h1;omega
  ·rw [List.erase_of_not_mem hm] at h1;omega
structure sU (f:Nat→Nat) (n k:Nat):Prop where
 nd:(path f n k).Nodup
 me:it f n k∈path f n k
theorem sU.le {f:Nat→Nat} {n k k':Nat} (h:sU f n k) (h':(path f n k').Nodup):k'≤k:=by
 apply Nat.le_of_not_lt
 intro hlt
 obtain ⟨i,hi,e⟩:=bw.mp h.me
 have:=fB h' (bW (f:=f) (n:=n) (show k<k' by omega)) (by rw [←e];exact bW (show i<k' by omega))
 omega
theorem sU.uniq {f:Nat→Nat} {n k k':Nat} (h:sU f n k) (h':sU f n k'):k=k':=Nat.le_antisymm (h'.le h.nd) (h.le h'.nd)
theorem wO {f:Nat→Nat} {n k:Nat} (h:(path f n k).Nodup) (hm:it f n k ∉ path f n k):(path f n (k+1)).Nodup:=by
 rw [gJ]
 exact L2.nd_snoc h hm
theorem vH {f:Nat→Nat} {n k B:Nat} (hB:∀ i,it f n (i+1)≤B) (h:(path f n k).Nodup):k≤B+2:=by
 cases k with
 | zero=>omega
 | succ k =>
  have e:path f n (k+1)=n::path f (f n) k:=by
   unfold path
   rw [List.range_succ_eq_map,List.map_cons,List.map_map]
   congr 1
   exact List.map_congr_left fun i _=>wM f n i
  rw [e] at h
  have h2:=(List.nodup_cons.mp h).2
  have h3:=yP (B+1) (path f (f n) k) h2 fun x hx=>by
   obtain ⟨i,_,rfl⟩:=bw.mp hx
   have e2:=wM f n i
   have e3:=hB i
   omega
  rw [bf] at h3
  omega
theorem Px {ws:List Nat} (hb:2≤ws.length) (hw:∀ x∈ws,x≤50) {n:Nat} (h:n<ws.length ^ 1001):∀ i,it (fall ws) n i<ws.length ^ 1001
 | 0=>h
 | i+1=>by
  have h1:=Ce hb hw (Px hb hw h i)
  have h2:=wL hb
  show fall ws (it (fall ws) n i)<_
  omega
theorem Zb {ws:List Nat} (hb:2≤ws.length) (hw:∀ x∈ws,x≤50) {n:Nat} (h:n<ws.length ^ 1001) (i:Nat):it (fall ws) n (i+1)≤50050:=Ce hb hw (Px hb hw h i)
def jz (ps:List (Nat×V)):List (Key×V):=ps.map fun p=>(Sum.inl (p.1:Int),p.2)
theorem cF (x:Nat):∀ ps:List (Nat×V),valV (jz ps) (Sum.inl (x:Int))=ps.lookup x
 | []=>rfl
 | (a,v)::r=>by
  show valV ((Sum.inl (a:Int),v)::jz r) _=_
  rw [List.lookup_cons]
  by_cases e:a=x
  ·subst e
   rw [valV_pos rfl,beq_self_eq_true]
  ·rw [valV_neg (by intro z;have:=Sum.inl.inj z;omega),cF x r,show (x == a)=false by simp;omega]
theorem uJ {ps:List (Nat×V)} {x:Nat} {v:V} (h:ps.lookup x=none):putK (jz ps) (Sum.inl (x:Int)) v=jz (ps++[(x,v)]):=by
 rw [putK_new v (by rw [cF];exact h)]
 unfold jz
 rw [List.map_append]
 rfl
theorem je (ps:List (Nat×V)):(jz ps).length=ps.length:=by unfold jz;rw [List.length_map]
theorem lookup_isSome {x:Nat}:∀ {ps:List (Nat×V)},(ps.lookup x).isSome=decide (x∈ps.map (·.1))
 | []=>rfl
 | (a,v)::r=>by
  rw [List.lookup_cons]
  by_cases e:x=a
  ·subst e;simp
  ·rw [show (x == a)=false by simpa using e]
   show (r.lookup x).isSome=_
   rw [lookup_isSome]
   simp [e]
theorem sV {xs:List V} {s:Nat} (h:s≤xs.length):oW xs (some (s:Int)) none=xs.drop s:=by
 unfold oW
 rw [HT.mJ,HT.Jg,Nat.min_eq_left h,List.take_of_length_le (by rw [List.length_drop];omega)]
theorem Lq {xs:List V} {s:Nat} (h:s≤xs.length):oW xs none (some (s:Int))=xs.take s:=by
 unfold oW
 rw [HT.mJ,HT.Jg,Nat.min_eq_left h]
 rfl
structure Jz (R:List Nat) (s:Nat):Prop where
 ex:∃ M,R[s]? = some M∧(∀ a∈R,M≤a)∧∀ m,m<s→R[m]? ≠ some M
theorem Jz.lt {R:List Nat} {s:Nat} (h:Jz R s):s<R.length:=by
 obtain ⟨M,h1,_⟩:=h.ex
 exact (List.getElem?_eq_some_iff.mp h1).1
theorem wQ {x:Nat}:∀ {R:List Nat},x∈R→∃ j:Nat,R[j]? = some x∧∀ m:Nat,m<j→R[m]? ≠ some x
 | [],h=>by cases h
 | y::r,h=>by
  by_cases e:y=x
  ·exact ⟨0,by rw [e];rfl,fun m hm=>absurd hm (Nat.not_lt_zero _)⟩
  ·obtain ⟨j,h1,h2⟩:=wQ ((List.mem_cons.mp h).resolve_left fun z=>e z.symm)
   refine ⟨j+1,h1,fun m hm=>?_⟩
   cases m with
   | zero=>intro z;exact e (by simpa using z)
   | succ m=>exact h2 m (by omega)
def Xz (R:List Nat) (s:Nat):List Nat:=R.drop s++R.take s
structure lg (f:Nat→Nat) (n:Nat) (R:List Nat) (j:Nat):Prop where
 ex:∃ k s,sU f n k∧j<k∧it f n j=it f n k∧Jz ((path f n k).drop j) s∧R=Xz ((path f n k).drop j) s
def Ag (f:Nat→Nat) (n k:Nat):List (Nat×V):=(List.range k).map fun i=>(it f n i,vI i)
theorem Gi (f:Nat→Nat) (n k:Nat):Ag f n (k+1)=Ag f n k++[(it f n k,vI k)]:=by unfold Ag;rw [List.range_succ,List.map_append];rfl
theorem Vf (f:Nat→Nat) (n k:Nat):(Ag f n k).length=k:=by unfold Ag;rw [List.length_map,List.length_range]
theorem yQ (f:Nat→Nat) (n k:Nat):(Ag f n k).map (·.1)=path f n k:=by unfold Ag path;rw [List.map_map];rfl
theorem c7 {x:Nat} {ps:List (Nat×V)} (h:x ∉ ps.map (·.1)):ps.lookup x=none:=by
 cases q:ps.lookup x with
 | none=>rfl
 | some v =>
  have:(ps.lookup x).isSome=true:=by rw [q];rfl
  rw [lookup_isSome] at this
  exact absurd (of_decide_eq_true this) h
theorem lookup_append_none {x:Nat}:∀ {ps qs:List (Nat×V)},ps.lookup x=none→(ps++qs).lookup x=qs.lookup x
 | [],_,_=>rfl
 | (a,v)::r,qs,h=>by
  rw [List.lookup_cons] at h
  rw [List.cons_append,List.lookup_cons]
  cases e:x == a with
  | true=>rw [e] at h;cases h
  | false=>rw [e] at h;exact lookup_append_none h
theorem gq {x:Nat} {w:V}:∀ {ps qs:List (Nat×V)},ps.lookup x=some w→(ps++qs).lookup x=some w
 | [],_,h=>by cases h
 | (a,v)::r,qs,h=>by
  rw [List.lookup_cons] at h
  rw [List.cons_append,List.lookup_cons]
  cases e:x == a with
  | true=>rw [e] at h;exact h
  | false=>rw [e] at h;exact gq h
theorem Py {f:Nat→Nat} {n:Nat}:∀ {k j:Nat},(path f n k).Nodup→j<k→(Ag f n k).lookup (it f n j)=some (vI j)
 | 0,j,_,h=>absurd h (Nat.not_lt_zero _)
 | k+1,j,hn,h=>by
  rw [Gi]
  have hn':(path f n k).Nodup:=by rw [gJ] at hn;exact (List.nodup_append.mp hn).1
  by_cases e:j=k
  ·subst e
   rw [lookup_append_none (c7 (by
    rw [yQ]
    intro z
    obtain ⟨i,hi,e⟩:=bw.mp z
    have:=fB hn (bW (show i<j+1 by omega)) (by rw [e];exact bW h)
    omega)),List.lookup_cons,beq_self_eq_true]
  ·exact gq (Py hn' (by omega))
theorem Vg {b:Nat} (hb:2≤b):∀ n:Nat,1≤n→b ^ ((fl b n).length - 1)≤n:=by
 intro n
 induction n using Nat.strongRecOn with
 | _ n ih =>
  intro hn
  by_cases h:b≤n
  ·have h1:0<n / b:=Nat.div_pos h (by omega)
   have h2:=ih (n / b) (Nat.div_lt_self (by omega) (by omega)) h1
   have h3:=List.length_pos_iff.mpr (@Pr b (n / b))
   rw [u6 hb h,List.length_cons,show (fl b (n / b)).length+1 - 1=(fl b (n / b)).length - 1+1 by omega,Nat.pow_succ]
   exact Nat.le_trans (Nat.mul_le_mul_right b h2) (Nat.div_mul_le_self n b)
  ·rw [rH (by omega)]
   simpa using hn
theorem Rw:∀ l:Nat,10≤l→50*l<2 ^ (l - 1):=by
 intro l
 induction l with
 | zero=>intro h;omega
 | succ l ih =>
  intro h
  by_cases e:l=9
  ·subst e;decide
  ·have h1:=ih (by omega)
   have h2:2 ^ (l+1 - 1)=2*2 ^ (l - 1):=by
    rw [show l+1 - 1=l - 1+1 by omega,Nat.pow_succ,Nat.mul_comm]
   omega
theorem eN {ws:List Nat} (hb:2≤ws.length) (hw:∀ x∈ws,x≤50) {n:Nat} (h:451≤n):fall ws n<n:=by
 have h1:=wK hw n
 by_cases hl:(fl ws.length n).length≤9
 ·omega
 ·have h2:=Rw (fl ws.length n).length (by omega)
  have h3:=Vg hb n (by omega)
  have h4:2 ^ ((fl ws.length n).length - 1)≤ws.length ^ ((fl ws.length n).length - 1):=Nat.pow_le_pow_left hb _
  omega
structure XC (f:Nat→Nat) (B:Nat):Prop where
 pos:1≤B
 at_:B - 1≤f (B - 1)
 from_:∀ n,B≤n→f n<n
theorem Gj (f:Nat→Nat) (n k j:Nat):(path f n k).drop j=path f (it f n j) (k - j):=by
 refine List.ext_getElem? fun i=>?_
 rw [List.getElem?_drop]
 by_cases h:j+i<k
 ·rw [bW h,bW (show i<k - j by omega),fH]
 ·rw [List.getElem?_eq_none (by rw [bf];omega),List.getElem?_eq_none (by rw [bf];omega)]
theorem Pz {f:Nat→Nat} {x L:Nat} (h:it f x L=x) (t:Nat):it f x (L+t)=it f x t:=by rw [fH,h]
theorem Vh {f:Nat→Nat} {x L:Nat} (hL:0<L) (h:it f x L=x) (t:Nat):it f x t=it f x (t % L):=by
 induction t using Nat.strongRecOn with
 | _ t ih =>
  by_cases ht:t<L
  ·rw [Nat.mod_eq_of_lt ht]
  ·have e:t=L+(t - L):=by omega
   rw [e,Pz h,ih (t - L) (by omega),Nat.add_mod_left]
theorem Vi {f:Nat→Nat} {x L s:Nat} (hs:s≤L) (h:it f x L=x):Xz (path f x L) s=path f (it f x s) L:=by
 unfold Xz
 refine List.ext_getElem? fun i=>?_
 rw [Gj]
 by_cases h1:i<L - s
 ·rw [List.getElem?_append_left (by rw [bf];exact h1),bW h1,bW (by omega)]
 ·rw [List.getElem?_append_right (by rw [bf];omega),bf]
  by_cases h2:i<L
  ·rw [bW h2,List.getElem?_take_of_lt (by omega),bW (by omega),←fH,show s+i=L+(i - (L - s)) by omega,Pz h]
  ·rw [List.getElem?_eq_none (by rw [List.length_take,bf];omega),List.getElem?_eq_none (by rw [bf];omega)]
theorem Cg (R:List Nat) (s:Nat):(Xz R s).Perm R:=by
 unfold Xz
 exact (List.perm_append_comm).trans (by rw [List.take_append_drop])
structure aX (f:Nat→Nat) (R:List Nat) (M L:Nat):Prop where
 eq:R=path f M L
 pos:0<L
 loop:it f M L=M
 nd:(path f M L).Nodup
 low:∀ x∈R,M≤x
theorem aX.Zc {f:Nat→Nat} {R:List Nat} {M L:Nat} (h:aX f R M L):sU f M L:=⟨h.nd,by rw [h.loop];exact bw.mpr ⟨0,h.pos,rfl⟩⟩
theorem aX.head {f:Nat→Nat} {R:List Nat} {M L:Nat} (h:aX f R M L):R[0]? = some M:=by rw [h.eq];exact bW h.pos
theorem aX.eO {f:Nat→Nat} {R:List Nat} {M L:Nat} (h:aX f R M L) (t:Nat):it f M t∈R:=by
 rw [h.eq,Vh h.pos h.loop t]
 exact bw.mpr ⟨_,Nat.mod_lt _ h.pos,rfl⟩
theorem aX.Hj {f:Nat→Nat} {R:List Nat} {M L:Nat} (h:aX f R M L) {x:Nat} (hx:x∈R):∃ i,i<L∧it f M i=x:=by rw [h.eq] at hx;exact bw.mp hx
theorem aX.back {f:Nat→Nat} {R:List Nat} {M L:Nat} (h:aX f R M L) {x:Nat} (hx:x∈R):∃ t,it f x t=M:=by
 obtain ⟨i,hi,e⟩:=h.Hj hx
 exact ⟨L - i,by rw [←e,←fH,show i+(L - i)=L by omega,h.loop]⟩
theorem aX.uniq {f:Nat→Nat} {R R':List Nat} {M M' L L':Nat} (h:aX f R M L) (h':aX f R' M' L') {n i i':Nat} (hi:it f n i∈R) (hi':it f n i'∈R'):R=R'∧M=M':=by
 have key:∀ {R R':List Nat} {M M' L L':Nat},aX f R M L→aX f R' M' L'→∀ {i i':Nat},it f n i∈R→it f n i'∈R'→i≤i'→it f n i'∈R:=fun {R R' M M' L L'} h h' {i i'} hi hi' hle=>by
  obtain ⟨a,_,e⟩:=h.Hj hi
  have:it f n i' = it f M (a+(i' - i)):=by rw [fH,e,←fH,show i+(i' - i)=i' by omega]
  rw [this]
  exact h.eO _
 have fin:∀ {R R':List Nat} {M M' L L':Nat},aX f R M L→aX f R' M' L'→∀ {y:Nat},y∈R→y∈R'→M≤M':=fun {R R' M M' L L'} h h' {y} hy hy'=>by
  obtain ⟨t,e⟩:=h'.back hy'
  obtain ⟨a,_,e2⟩:=h.Hj hy
  refine h.low _ ?_
  rw [←e,←e2,←fH]
  exact h.eO _
 have hm:∃ y,y∈R∧y∈R':=by
  rcases Nat.le_total i i' with z | z
  ·exact ⟨_,key h h' hi hi' z,hi'⟩
  ·exact ⟨_,hi,key h' h hi' hi z⟩
 obtain ⟨y,hy,hy'⟩:=hm
 have e:M=M':=Nat.le_antisymm (fin h h' hy hy') (fin h' h hy' hy)
 subst e
 have e2:=h.Zc.uniq h'.Zc
 subst e2
 exact ⟨h.eq.trans h'.eq.symm,rfl⟩
theorem lg.ring {f:Nat→Nat} {n j:Nat} {R:List Nat} (h:lg f n R j):∃ M L i,aX f R M L∧it f n i=M:=by
 obtain ⟨k,s,h1,h2,h3,h4,h5⟩:=h.ex
 have hL:it f (it f n j) (k - j)=it f n j:=by rw [←fH,show j+(k - j)=k by omega];exact h3.symm
 have hd:=Gj f n k j
 have hs:=h4.lt
 rw [List.length_drop,bf] at hs
 obtain ⟨M,g1,g2,_⟩:=h4.ex
 rw [hd,bW hs] at g1
 have eM:it f (it f n j) s=M:=Option.some.inj g1
 have hR:R=path f M (k - j):=by rw [h5,hd,Vi (by omega) hL,eM]
 have hp:R.Perm ((path f n k).drop j):=by rw [h5];exact Cg _ _
 refine ⟨M,k - j,j+s,⟨hR,by omega,?_,?_,fun x hx=>g2 x (hp.mem_iff.mp hx)⟩,by rw [fH];exact eM⟩
 ·rw [←eM,←fH,Nat.add_comm,fH,hL]
 ·rw [←hR]
  exact hp.nodup_iff.mpr (h1.nd.sublist (List.drop_sublist _ _))
end My
namespace L2
open PySem PySem.Spec PyProof.Rows
section
variable {P:Program} {w:World} {l outer:List Env} {env:Env} {H H':Hp} {s s':Shared} {C a0:Value} {a:Addr} {B h':Heap}
end
section
variable {X:Cx} {pins:List (Addr×Obj)} {σ:St} {H H':Hp} {s s':Shared} {C a0:Value} {a:Addr} {B h':Heap}
end
end L2
namespace PySem
open PySem.W
section
variable {prog:Program} {w:World} {A:Around} {E:Value→Shared→Prop} {h:Heap} {g:Array GenState} {d:Drawn} {t:Nat} {os:OsState} {a:Addr} {o:Obj} {K:Frag} {C:Addr}
end
end PySem
namespace L2
open PySem PySem.Spec PyProof.Rows PySem.W
section
variable {X:Cx} {x n:Str} {C:Addr} {e:Expr} {te:TE} {np cpos pos hp:Pos} {E:XK} {i:Nat}
variable {pins pins':List (Addr×Obj)} {σ:St} {H H':Hp} {s s':Shared}
end
end L2
namespace L2
open PySem PySem.Spec PyProof.Rows
section
variable {X:Cx} {scope:Scope} {x y:Str} {px py pos spos:Pos} {elt iter:Expr} {wi:TI} {te:TE} {i:Nat}
theorem Vj (hN:X.N.Nodup) (hi':X.N[i]? = some y) (hy:X.env.scope.names.lookup y=some .local) (S:cL X scope x) (hc:X.calm=true) (hi:PI X (.Name x px) iter wi) (he:∀ C s H fp,PE (X.blk scope x C s H fp) elt te) (hg:∀ C s H fp,PG (X.blk scope x C s H fp) (.Name x px) (gName 0))
  (hsw:swapsWith (.ListComp elt [⟨.Name x px,iter,[],0⟩] scope pos) (some (.Name y py)) spos.line X.env=pure true:=by rfl) (hs:∀ x,foldedSetIterable iter X.env x=pure x:=by intro _;rfl) :
  PS X (.Assign [.Name y py] (.ListComp elt [⟨.Name x px,iter,[],0⟩] scope pos) spos) (tAsg (tLC wi te) (gName i)):=by
 intro pins s σ H D I h
 have hnames:∀ z∈scope.names,z.2=.local→scope.names.lookup z.1=some .local:=fun z hz hl=>by
  have:=List.all_eq_true.mp S.loc z hz
  rw [hl] at this
  simpa using this
 rw [exec_Assign_Name_used _ _ _ _ hsw]
 refine wpAny_bind (wpAny_standAt (wpAny_bind ?_))
 show wpAny _ X.A (do let _ ←comprehension (.ListComp elt [⟨.Name x px,iter,[],0⟩] scope pos) scope X.env _ (newList []) false (eval iter X.env) (some (assign (.Name y py) X.env))) _ _ s
 refine wpAny_bind (wpAny_mono (wpAny_comprehension_free (use:=some (assign (.Name y py) X.env)) (Q:=fun _ s'=>SP X pins D .next s') rfl hs (BK (S.has I.ok)) S.kind hnames
  (thn (hi pins s σ H _ I h) fun v s1 h1=>thn h1 fun itv s2 h2=>?_)) (fun _ s' hq=>wpAny_pure (wpAny_pure hq)) fun _ _ e=>e)
 obtain ⟨it,fp,tn,J,H2,rfl,I2,T,st2,f2,q2⟩:=h2
 refine Ju S hc (Q:=fun x H1=>gName i x σ H1 D.nx) (RR:=fun acc C=>compPost (model X.prog X.w) X.A X.xe (some (assign (.Name y py) X.env)) (fun _ s'=>SP X pins D .next s') acc C) he hg I2 T st2 f2 q2 fun Da C s' H' m' qD I' hm hn hC=>?_
 have neL:C≠X.env.locals:=Nat.ne_of_gt (Nat.lt_of_lt_of_le I2.lt hC)
 have neC:∀ y c,X.env.cells.lookup y=some c→c≠C:=fun y c e z=>by
  obtain ⟨_,o,ho,_⟩:=I2.cell y c e
  exact absurd (Heap.lt_size ho) (by rw [z];exact Nat.not_lt.mpr hC)
 show wpAny _ X.A (assign (.Name y py) X.env (.ref Da)) _ _ _
 refine wpAny_assign_Name (store_ok2 I' hN hi' (.inl hy) (v:=.ref Da) rfl (fun s3 I3 hb3=>?_) (.inr hy))
 obtain ⟨b3,sb3,h3⟩:=hb3
 have b3C:C≠b3:=by
  rcases h3 with z | z
  ·rw [z];exact neL
  ·exact (neC y b3 z).symm
 refine ⟨m',hm.sameBut sb3 b3C,fun h' hs'=>?_⟩
 refine ⟨_,H',I3.turned (it:=C) (t':=s3.toks) (fun b o hb e=>hs'.extBut b o hb e) hn neL (.inr (Nat.le_trans I2.sz hC)) neC (fun p hp z=>?_),qD⟩
 exact absurd (Heap.lt_size (I2.pin p hp).1) (by rw [z];exact Nat.not_lt.mpr hC)
end
open PySem.W
def sW (K:Frag) (x:Str):Addr:=match nsIn K mainGlobals x with
 | some (some (.ref C))=>C
 | _=>0
theorem Ci {K:Frag} {x:Str} {C:Addr} (h:nsIn K mainGlobals x=some (some (.ref C))):sW K x=C:=by unfold sW;rw [h]
section
variable {K:Frag} {mg:Str→Option Value}
end
section
variable {X:Cx}
end
end L2
namespace L2
open PySem PySem.Spec PyProof.Rows
section
variable {X:Cx} {K:PySem.W.Frag} {mg:Str→Option Value} {x n y:Str} {C:Addr} {e:Expr} {te:TE} {np cpos pos hp px py spos:Pos} {E:XK} {i j:Nat}
theorem Cj {scope:Scope} {elt iter:Expr} {wi:TI} (hN:X.N.Nodup) (hi':X.N[i]? = some y) (hy:X.env.scope.names.lookup y=some .local) (S:cL X scope x) (hc:X.calm=true) (hi:QI X (.Name x px) iter wi) (he:∀ C s H fp,QE (X.blk scope x C s H fp) elt te) (hg:∀ C s H fp,QG (X.blk scope x C s H fp) (.Name x px) (gName 0))
  (hsw:swapsWith (.ListComp elt [⟨.Name x px,iter,[],0⟩] scope pos) (some (.Name y py)) spos.line X.env=pure true:=by rfl) (hs:∀ x,foldedSetIterable iter X.env x=pure x:=by intro _;rfl) :
  QS X (.Assign [.Name y py] (.ListComp elt [⟨.Name x px,iter,[],0⟩] scope pos) spos) (tAsg (tLC wi te) (gName i)):=⟨Vj hN hi' hy S hc hi.h (fun C s H fp=>(he C s H fp).h) (fun C s H fp=>(hg C s H fp).h) hsw hs⟩
end
section
variable {X:Cx}
end
end L2
namespace My
open PySem L2
end My
namespace L2
open PySem PySem.Spec PyProof.Rows
def Sx (lo:Int) (n:Nat) (te:TE) (σ:St) (H1:Hp) (Q:VK):Prop:=∀ D,H1 D=none→∃ W:Nat→Nat→Hp→Prop,(∃ m,W 0 m (upd H1 D (.lst [])))∧∀ i m H2,W i m H2 →
  ((Ri lo n).stop i H2∧Q (.ref D) H2)∨((Ri lo n).go i H2∧∀ x H',(Ri lo n).yld i H2 x H'→te (some x::σ) H' fun y H3=>∃ ys,H3 D=some (.lst ys)∧ys.length<sizeLine∧∃ m',m'<m∧W (i+1) m' (upd H3 D (.lst (ys++[y]))))
theorem PB (ta:TA) (te:TE) (σ:St) (H:Hp) (Q:VK):tLC (NP ta) te σ H Q=ta σ H fun vs H1=>aal vs fun j=>-(2 ^ 62)≤j∧j<2 ^ 62∧Sx 0 j.toNat te σ H1 Q:=rfl
theorem PJ (ta:TA) (te:TE) (σ:St) (H:Hp) (Q:VK):tLC (NQ ta) te σ H Q=ta σ H fun vs H1=>aam vs fun i j=>(-(2 ^ 62)≤i∧i<2 ^ 62∧-(2 ^ 62)≤j∧j<2 ^ 62)∧Sx i (j - i).toNat te σ H1 Q:=rfl
theorem Sx.at {lo:Int} {n:Nat} {te:TE} {σ:St} {H:Hp} {Q:VK} (hlen:n<sizeLine) (Pv:Addr→Nat→List V→Hp→Prop) (h0:∀ D,H D=none→Pv D 0 [] (upd H D (.lst [])))
  (hs:∀ (D:Addr) (i:Nat) (ys:List V) (H2:Hp) (R:VK),i<n→H D=none→H2 D=some (.lst ys)→ys.length=i→Pv D i ys H2→Same H H2→(∀ y H3,H3 D=some (.lst ys)→Same H H3→Pv D (i+1) (ys++[y]) (upd H3 D (.lst (ys++[y])))→R y H3)→te (some (.int (lo+i))::σ) H2 R)
  (hd:∀ D ys H2,H D=none→H2 D=some (.lst ys)→ys.length=n→Pv D n ys H2→Same H H2→Q (.ref D) H2):Sx lo n te σ H Q:=by
 intro D hD
 refine ⟨fun i m H2=>m=n - i∧i≤n∧∃ ys,ys.length=i∧H2 D=some (.lst ys)∧Pv D i ys H2∧Same H H2,⟨n,by simp,Nat.zero_le _,[],rfl,upd_same,h0 D hD,Same.new hD⟩,?_⟩
 rintro i m H2 ⟨rfl,hi,ys,hys,hD2,hP,hsm⟩
 by_cases hlt:i<n
 ·refine .inr ⟨hlt,fun x H' hy=>?_⟩
  obtain ⟨rfl,rfl⟩:=hy
  refine hs D i ys _ _ hlt hD hD2 hys hP hsm fun y H3 Xb h3 hP3=>⟨ys,Xb,by omega,n - (i+1),by omega,rfl,hlt,ys++[y],by simp [hys],upd_same,hP3,fun b o e=>?_⟩
  rw [upd_ne (ne_of_none e hD)]
  exact h3 _ _ e
 ·obtain rfl:i=n:=by omega
  exact .inl ⟨Nat.le_refl _,hd D ys H2 hD hD2 hys hP hsm⟩
theorem Sx.map {lo:Int} {n:Nat} {te:TE} {σ:St} {H:Hp} {Q:VK} (hlen:n<sizeLine) (f:Nat→V)
  (hs:∀ (i:Nat) (H2:Hp) (R:VK),i<n→Same H H2→(∀ H3,Same H2 H3→R (f i) H3)→te (some (.int (lo+i))::σ) H2 R)
  (hd:∀ D H2,H D=none→H2 D=some (.lst ((List.range n).map f))→Same H H2→Q (.ref D) H2):Sx lo n te σ H Q:=by
 refine Sx.at hlen (fun _ i ys _=>ys=(List.range i).map f) (fun _ _=>rfl) (fun D i ys H2 R hi hD hD2 hl hP hsm hR=>hs i H2 R hi hsm fun H3 h3=>hR _ _ (h3 _ _ hD2) (hsm.trans h3) ?_) fun D ys H2 hD hD2 _ hP hsm=>hd D H2 hD (by rw [hD2,hP]) hsm
 rw [hP,List.range_succ,List.map_append];rfl
end L2
namespace L2
open PySem PySem.Spec PyProof.Rows
section
variable {X:Cx} {pins:List (Addr×Obj)} {σ:St} {H H':Hp} {s s':Shared} {h':Heap}
theorem Inv.XD {t':Nat} {ch:List Addr} (I:Inv X pins σ H s) (k:∀ b o,b ∉ ch→s.heap.get? b=some o→h'.get? b=some o) (hf:∀ b∈ch,FpOk X pins H b):Inv X pins σ H { s with heap:=h',toks:=t' }:=by
 have nit:∀ b u,H b=some u→b ∉ ch:=fun b u e z=>by rw [(hf b z).1] at e;cases e
 refine I.step (g':=s.gens) (d':=s.drawn) (ch:=ch) (fun b hb=>?_) (fun b o _ _ hc e _=>k b o hc e) (fun b o _ _ hc e _=>⟨o.slots,k b o hc e⟩) (fun _ _ _ _ n=>n)
  (fun b o hc e=>⟨o,k b o hc e⟩) (fun _ _ e=>e) (fun _ _ _ e=>e) (fun b ps e=>⟨#[],by rw [e];simp⟩) (fun m hm=>?_) (fun b u e=>?_) I.bare
 ·obtain ⟨_,f1,_,f3,f4,f5⟩:=hf b hb
  exact ⟨f3,f1,f4,f5⟩
 ·obtain ⟨o,es,ep,ho,r⟩:=hm
  exact ⟨o,es,ep,k _ o (fun z=>(hf _ z).2.1 rfl) ho,r⟩
 ·refine (I.hok b u e).stay (fun c v hc q=>k c v ?_ q) (fun _ q=>q) fun _ _ q=>q
  rcases hc with z | z
  ·rw [z];exact nit b u e
  ·exact nit c _ z
theorem Inv.track {a:Addr} {u:HO} (I:Inv X pins σ H s) (hn:H a=none) (h0:X.s₀.heap.get? a=none) (hL:a≠X.env.locals) (hc:∀ x c,X.env.cells.lookup x=some c→c≠a) (hp:∀ p∈X.pn++pins,p.1≠a) (new:ObjOk X.prog X.w (upd H a u) s.heap a u) :
  Inv X pins σ (upd H a u) s:=by
 refine ⟨I.ok,I.os,I.bare,⟨I.base.keep,I.base.slot,fun b ob q n hx=>?_,I.base.there,fun b xs q=>?_,fun b ob u q=>?_,fun b ps q=>?_⟩,I.loc,I.cell,?_,fun y c' q=>?_,fun p hq=>?_,fun b v q=>?_,I.len⟩
 ·rw [upd_ne (fun z=>by rw [z,h0] at q;cases q)];exact I.base.free b ob q n hx
 ·have:=I.base.tups b xs q
  rw [upd_ne (ne_of_none this hn)];exact this
 ·have:=I.base.frzs b ob u q
  rw [upd_ne (ne_of_none this hn)];exact this
 ·obtain ⟨more,this⟩:=I.base.tbls b ps q
  exact ⟨more,by rw [upd_ne (ne_of_none this hn)];exact this⟩
 ·rw [upd_ne hL.symm];exact I.free
 ·rw [upd_ne (hc y c' q)];exact I.freeC y c' q
 ·obtain ⟨a1,a2,a3⟩:=I.pin p hq
  exact ⟨a1,by rw [upd_ne (hp p hq)];exact a2,a3⟩
 ·by_cases hb:b=a
  ·subst hb
   rw [upd_same] at q;cases q
   exact new
  ·rw [upd_ne hb] at q
   exact (I.hok b v q).stay (fun _ _ _ r=>r) (fun c r=>by rw [upd_ne (ne_of_none r hn)];exact r) fun c xs r=>by rw [upd_ne (ne_of_none r hn)];exact r
theorem Inv.newer (I:Inv X pins σ H s) {a:Addr} (h:s.heap.objs.size≤a):X.s₀.heap.get? a=none∧a≠X.env.locals∧(∀ x c,X.env.cells.lookup x=some c→c≠a)∧∀ p∈X.pn++pins,p.1≠a:=by
 refine ⟨Heap.get?_none_of_le (Nat.le_trans I.sz h),Nat.ne_of_gt (Nat.lt_of_lt_of_le I.lt h),fun x c e z=>?_,fun p hp z=>?_⟩
 ·obtain ⟨v,q⟩:=I.cell x c e
  exact absurd (Nat.lt_of_lt_of_le q.lt (by rw [z];exact h)) (Nat.lt_irrefl _)
 ·exact absurd (Nat.lt_of_lt_of_le (Heap.lt_size (I.pin p hp).1) (by rw [z];exact h)) (Nat.lt_irrefl _)
end
def Ite (K:PySem.W.Frag) (a:Addr):It :=
 ⟨fun i H=>∃ xs x,SqL K H a xs∧xs[i]? = some x,fun i H v H'=>∃ p x,H p=none∧v=.ref p∧H' = upd H p (.tup [.int (i:Int),x])∧∀ xs,SqL K H a xs→xs[i]? = some x,fun i H=>∃ xs,SqL K H a xs∧xs.length≤i⟩
theorem Rx {P:Program} {w:World} {K:PySem.W.Frag} {es:List Expr} {k:Nat} {tp:Pos} (a e it:Addr) (hei:e≠it):Turn P w K (.Tuple es k tp) (Ite K a) [e,it] e (fun i h=>(∃ old,IsEnum h e it (i:Int) old)∧h.IsListIter it a i) where
 mem:=by simp
 obj:=fun i h st b hb=>by
  obtain ⟨⟨old,he⟩,o,hit,c,d⟩:=st
  rcases List.mem_cons.mp hb with z | z
  ·subst z;exact ⟨_,he,fun v z=>by cases z⟩
  ·rw [List.mem_singleton.mp z];exact ⟨o,hit,fun v z=>by rw [d] at z;cases z⟩
 keep:=fun i h h' st k=>by
  obtain ⟨⟨old,he⟩,hit⟩:=st
  exact ⟨⟨old,k e (by simp) _ he⟩,hit.at fun o x=>k it (by simp) o x⟩
 item:=by
  intro X hP hw hK hc i pins s σ H E I hf st hg
  subst hP hw hK
  obtain ⟨xs,x,hq,hx⟩:=hg
  obtain ⟨⟨old,he⟩,hit⟩:=st
  obtain ⟨its,rv,p,hz⟩:=I.list hq
  obtain ⟨u,hu,ru⟩:=rv.get hx
  have hie:=hei.symm
  refine wpAny_pyNext_enum_item he hit p.isList (x:=u) (by simpa using hu) hei fun h1 ho hit1 hT hsz hk=>?_
  have helt:e<s.heap.objs.size:=Heap.lt_size he
  have hilt:it<s.heap.objs.size:=by obtain ⟨_,y,_⟩:=hit;exact Heap.lt_size y
  refine ⟨_,rfl,wpAny_letOwnedTupleGo_enum ho fun h2 he2 hs2=>?_⟩
  have hT2:h2.get? s.heap.objs.size=some { cls:=.type "tuple",data:=.seq #[.int i s.toks,u] }:=(hs2.2 _ (Nat.ne_of_gt helt)).trans hT
  have I1:Inv X pins σ H { s with heap:=h2,toks:=s.toks+1 }:=I.XD (ch:=[e,it]) (fun b o hb q=>by
   have hbe:b≠e:=fun z=>hb (by simp [z])
   have hbi:b≠it:=fun z=>hb (by simp [z])
   exact hs2.extBut b o hbe (hk b o hbe hbi q)) hf
  obtain ⟨n0,n1,n2,n3⟩:=I.newer (a:=s.heap.objs.size) (Nat.le_refl _)
  have hfr:H s.heap.objs.size=none:=I.hok.fresh (Nat.le_refl _)
  have I2:Inv X pins σ (upd H s.heap.objs.size (.tup [.int (i:Int),x])) { s with heap:=h2,toks:=s.toks+1 } :=
   I1.track hfr n0 n1 n2 n3 ⟨by show 2≤sizeLine;decide,[.int i s.toks,u],.cons ⟨_,rfl⟩ (.cons ru .nil),_,hT2,rfl,_,rfl⟩
  refine ⟨.ref s.heap.objs.size,_,I2,rfl,⟨_,x,hfr,rfl,rfl,fun ys hy=>by rw [I.list_inj hy hq];exact hx⟩,⟨⟨_,by
   have e0:((i+1:Nat):Int)=(i:Int)+1:=by push_cast;rfl
   rw [e0];exact he2⟩,hit1.extBut hs2.extBut hei.symm⟩,fun b hb=>?_⟩
  rw [upd_ne (fun z=>?_)]
  ·exact (hf b hb).1
  ·rw [z] at hb
   rcases List.mem_cons.mp hb with q | q
   ·exact absurd q (Nat.ne_of_gt helt)
   ·exact absurd (List.mem_singleton.mp q) (Nat.ne_of_gt hilt)
 done:=by
  intro X hP hw hK hc i pins s σ H E I hf st hg
  subst hP hw hK
  obtain ⟨xs,hq,hx⟩:=hg
  obtain ⟨⟨old,he⟩,hit⟩:=st
  obtain ⟨its,rv,p,hz⟩:=I.list hq
  have hl:=rv.length
  obtain ⟨f0,f1,f2,f3,f4,f5⟩:=hf it (by simp)
  exact wpAny_pyNext_enum_end (I.ok.hd hc) he hit p.isList (by simp;omega) fun h' eb=>⟨rfl,I.turned (t':=s.toks) (fun b o hb q=>eb b o hb q) f0 f1 f3 f4 f5⟩
 self:=fun _ _ _ _ _ st h=>by
  obtain ⟨⟨old,he⟩,_⟩:=st
  exact wpAny_pyIter_enum he h
section
variable {X:Cx} {es:List Expr} {k:Nat} {tp:Pos}
theorem Hl:bootBuiltins "enumerate" = some (.type "enumerate"):=by rfl
def Zd (K:PySem.W.Frag) (ta:TA):TI:=fun σ H R=>ta σ H fun vs H1=>∃ a,vs=[.ref a]∧(∃ xs,SqL K H1 a xs)∧R (Ite K a) H1
theorem Bm {a:Expr} {ta:TA} {p pos:Pos} (hg:Gl X "enumerate") (hm:X.mg "enumerate" = none) (ha:QA X [a] ta) (hs:starEach [a] X.env=[(false,eval a X.env)]:=by rfl):QI X (.Tuple es k tp) (.Call (.Name "enumerate" p) [a] [] pos) (Zd X.K ta):=by
 constructor
 intro pins s σ H R I h
 refine Call_ (ld_blt I hg hm Hl (PyProof.Rows.callWith_type1 (thn (ha.h pos pins s σ H _ I h) fun us s1 ⟨vs,H1,I1,r1,q1⟩=>?_) hs rfl))
 obtain ⟨a,e,⟨xs,hq⟩,q⟩:=q1
 subst e
 cases r1 with
 | cons r rr =>
  cases rr
  cases r
  obtain ⟨its,rv,pl,hz⟩:=I1.list hq
  refine call_enumerate_list pl.isList fun h' he hit hsz hk=>?_
  refine wpAny_pyIter_enum he ?_
  have I2:Inv X pins σ H1 { s1 with heap:=h' }:=I1.kept (t':=s1.toks) hk
  refine ⟨s1.heap.objs.size+1,[s1.heap.objs.size+1,s1.heap.objs.size],_,_,H1,rfl,I2,Rx a _ _ (Nat.ne_of_gt (Nat.lt_succ_self _)),⟨⟨.none,he⟩,hit⟩,fun b hb=>?_,q⟩
  have hb':s1.heap.objs.size≤b:=by
   rcases List.mem_cons.mp hb with z | z
   ·rw [z];exact Nat.le_succ _
   ·rw [List.mem_singleton.mp z];exact Nat.le_refl _
  exact I1.fpOk hb' (I1.hok.fresh hb')
end
def Lr (K:PySem.W.Frag) (a:Addr) (g:TG) (tb:TS) (D:Ends) (σ:St) (H:Hp):Prop:=(∃ xs,SqL K H a xs)∧∃ W:Nat→Nat→St→Hp→Prop,(∃ m,W 0 m σ H)∧∀ i m σ H,W i m σ H →
 ((Ite K a).stop i H∧D.nx σ H)∨((Ite K a).go i H∧∃ N:St→Hp→Prop,(∀ σ' H',N σ' H'→∃ m',m'<m∧W (i+1) m' σ' H')∧∀ x H',(Ite K a).yld i H x H'→g x σ H' fun σ2 H2=>tb { D with nx:=N,ct:=N,bk:=D.nx } σ2 H2)
def abK (vs:List V) (R:Addr→Prop):Prop:=∃ a,vs=[.ref a]∧R a
theorem PK (a:Addr) (R:Addr→Prop):abK [.ref a] R=R a:=by
 refine propext ⟨fun ⟨_,e,q⟩=>?_,fun q=>⟨a,rfl,q⟩⟩
 cases e;exact q
theorem PL (K:PySem.W.Frag) (ta:TA) (g:TG) (tb:TS) (D:Ends) (σ:St) (H:Hp):tFor (Zd K ta) g tb D σ H=ta σ H (fun vs H1=>abK vs fun a=>Lr K a g tb D σ H1):=rfl
theorem Lr.go {K:PySem.W.Frag} {a:Addr} {xs:List V} {g:TG} {tb:TS} {D:Ends} {σ:St} {H:Hp} (hS:SqL K H a xs) (Pv:Nat→St→Hp→Prop) (h0:Pv 0 σ H) (hl:∀ i σ H2,i≤xs.length→Pv i σ H2→∀ o,H a=some o→H2 a=some o)
  (hs:∀ (i:Nat) (x:V) (p:Addr) (σ:St) (H:Hp) (N:St→Hp→Prop),xs[i]? = some x→Pv i σ H→H p=none→(∀ σ' H',Pv (i+1) σ' H'→N σ' H')→g (.ref p) σ (upd H p (.tup [.int (i:Int),x])) fun σ2 H2=>tb { D with nx:=N,ct:=N,bk:=D.nx } σ2 H2) (hd:∀ σ H,Pv xs.length σ H→D.nx σ H):Lr K a g tb D σ H:=by
 refine ⟨⟨xs,hS⟩,fun i m σ H2=>m=xs.length - i∧i≤xs.length∧Pv i σ H2,⟨xs.length,by simp,Nat.zero_le _,h0⟩,?_⟩
 rintro i m σ H2 ⟨rfl,hi,p⟩
 have q:=Ph (hl i σ H2 hi p) hS
 by_cases hlt:i<xs.length
 ·refine .inr ⟨⟨xs,xs[i],q,by simp [hlt]⟩,Pv (i+1),fun σ' H' p'=>⟨xs.length - (i+1),by omega,rfl,hlt,p'⟩,fun v H' y=>?_⟩
  obtain ⟨t,x,ht,rfl,rfl,y⟩:=y
  exact hs i x t σ H2 _ (y xs q) p ht fun _ _ z=>z
 ·have e:i=xs.length:=by omega
  subst e
  exact .inl ⟨⟨xs,q,Nat.le_refl _⟩,hd σ H2 p⟩
section
variable {X:Cx} {K:PySem.W.Frag}
structure QGs (X:Cx) (ts:List Expr) (t:Sw):Prop where h:PGs X ts t
theorem Bo:QGs X [] ZM:=⟨Xe⟩
theorem ju {e:Expr} {es:List Expr} {t:TG} {u:Sw} (h1:QG X e t) (h2:QGs X es u) (hs:(assignEach (e::es) X.env).map (·.2)=assign e X.env::(assignEach es X.env).map (·.2):=by rfl):QGs X (e::es) (Tc t u):=⟨Te h1.h h2.h hs⟩
theorem Ho {es:List Expr} {k:Nat} {t:Sw} {n:Nat} {pos:Pos} (hK:X.K=K) (hc:X.calm=true) (h:QGs X es t) (hn:(assignEach es X.env).length=n:=by rfl) (hst:(assignEach es X.env).findIdx? (·.1)=none:=by rfl):QG X (.Tuple es k pos) (ZP K n t):=by
 subst hK;exact ⟨ZQ hc h.h hn hst⟩
theorem Hq (n:Nat) (t:Sw) (p:Addr) (σ:St) (H:Hp) (Q:St→Hp→Prop):ZP K n t (.ref p) σ H Q=∃ xs,SqT K H p xs∧xs.length=n∧t xs σ H Q:=by
 refine propext ⟨fun ⟨_,xs,e,h⟩=>?_,fun ⟨xs,h⟩=>⟨p,xs,rfl,h⟩⟩
 cases e;exact ⟨xs,h⟩
theorem Hr (σ:St) (H:Hp) (Q:St→Hp→Prop):ZM [] σ H Q=Q σ H:=propext ⟨fun h=>h.2,fun h=>⟨rfl,h⟩⟩
theorem Ck (t:TG) (u:Sw) (v:V) (r:List V) (σ:St) (H:Hp) (Q:St→Hp→Prop):Tc t u (v::r) σ H Q=t v σ H fun σ' H'=>u r σ' H' Q:=by
 refine propext ⟨fun ⟨_,_,e,h⟩=>?_,fun h=>⟨v,r,rfl,h⟩⟩
 cases e;exact h
theorem yR {i:Nat} {x:Str} {e:Expr} {te:TE} {op:Operator} {ti:S9} {pos' pos:Pos} (hN:X.N.Nodup) (hi:X.N[i]? = some x) (hx:Loc X.env.scope x) (he:QE X e te) (ho:ZL X op ti) (hf:X.fn x=true∨X.env.scope.names.lookup x=some .local:=by first | exact .inl rfl | exact .inr rfl | assumption) :
  QS X (.AugAssign (.Name x pos') op e pos) (Tf i te ti):=⟨ZW hN hi hx he.h ho hf⟩
theorem PN (te:TE) (ti:S9) (v:V) (r:St) (D:Ends) (H:Hp):Tf 0 te ti D (some v::r) H=te (some v::r) H fun y H1=>ti v y H1 fun z H2=>D.nx (some z::r) H2:=by
 unfold Tf
 refine propext ⟨fun ⟨_,e,h⟩=>?_,fun h=>⟨v,rfl,h⟩⟩
 cases e;exact h
theorem Vk (i:Nat) (te:TE) (ti:S9) (D:Ends) (σ:St) (H:Hp):Tf i te ti D σ H=tVar i σ H fun v _=>te σ H fun y H1=>ti v y H1 fun z H2=>D.nx (σ.set i (some z)) H2:=rfl
theorem Vl (f:Int→Int→Int) (i j:Int) (H:Hp) (Q:VK):ipI f (.int i) (.int j) H Q=Q (.int (f i j)) H:=by
 refine propext ⟨fun ⟨_,_,e1,e2,q⟩=>?_,fun q=>⟨i,j,rfl,rfl,q⟩⟩
 cases e1;cases e2;exact q
theorem Bp {o i e:Expr} {to ti te:TE} {Ej:V→V→Hp→VK→Prop} {Xa:S9} {Ek:GZ} {op:Operator} {tpos pos:Pos} (ho:QE X o to) (hi:QE X i ti) (hg:Xf X Ej) (he:QE X e te) (hp:ZL X op Xa) (hs:S8 X Ek)
  (ha:∀ ov iv new,augStore i ov iv new=(do holding [new,ov,iv] (setItem ov iv new);release [new,ov,iv] [];pure .next):=by intros;rfl):QS X (.AugAssign (.Subscript o i tpos) op e pos) (Tg to ti te Ej Xa Ek):=⟨Xg ho.h hi.h hg he.h hp hs ha⟩
theorem PX (to ti te:TE) (Ej:V→V→Hp→VK→Prop) (Xa:S9) (Ek:GZ) (D:Ends) (σ:St) (H:Hp):Tg to ti te Ej Xa Ek D σ H=to σ H fun o H1=>ti σ H1 fun i H2=>Ej o i H2 fun x H3=>te σ H3 fun y H4=>Xa x y H4 fun z H5=>Ek o i z H5 fun H6=>D.nx σ H6:=rfl
end
end L2
namespace L2
open PySem PySem.Spec PyProof.Rows
section
variable {X:Cx} {K:PySem.W.Frag}
theorem Vm:Xf X (rIxL X.K):=by
 intro pins s σ H x y v u Q I rx ry h
 obtain ⟨p,xs,i,z,rfl,rfl,hq,he,q⟩:=h
 cases rx
 obtain ⟨t,rfl⟩:=ry
 obtain ⟨its,r,pl,hz⟩:=I.list hq
 obtain ⟨j,h1,h2,h3,h4,h5⟩:=atI_get he
 obtain ⟨w,ew,rw'⟩:=r.get h2
 have hl:=r.length
 have hn:=line63
 have fin:EP X pins σ Q w s:=⟨z,H,I,rw',q⟩
 by_cases h0:0≤i
 ·have hj:i.toNat=j:=by
   rw [seqIndex_of h0 h5] at h1
   exact Option.some.inj h1
  exact wpAny_getItem_list pl.isList h0 (by omega) (by rw [hj];simpa using ew) fin
 ·have hj:(i+(its.toArray.size:Int)).toNat=j:=by
   rw [seqIndex_neg (by omega) h4] at h1
   rw [List.size_toArray,←hl]
   exact Option.some.inj h1
  exact wpAny_getItem_list_neg pl.isList (by omega) (by rw [List.size_toArray] <;> omega) (by omega) (by rw [hj];simpa using ew) fin
theorem uK (hK:X.K=K):Xf X (rIxL K):=by subst hK;exact Vm
theorem P0 (p:Addr) (i:Int) (H:Hp) (Q:VK):rIxL K (.ref p) (.int i) H Q=∃ xs,SqL K H p xs∧∃ v,atI xs i=some v∧Q v H:=by
 refine propext ⟨fun h=>?_,fun h=>?_⟩
 ·obtain ⟨_,xs,_,v,e1,e2,h1,h2,q⟩:=h
  cases e1;cases e2
  exact ⟨xs,h1,v,h2,q⟩
 ·obtain ⟨xs,h1,v,h2,q⟩:=h
  exact ⟨p,xs,i,v,rfl,rfl,h1,h2,q⟩
def abL:R2:=fun x y H Q=>y=.non∧Q (.bl (decide (x=.non))) H
theorem XF:OpR X (compareOp .Is) abL:=Z0
theorem Qa (x:V) (H:Hp) (Q:VK):abL x .non H Q=Q (.bl (decide (x=.non))) H:=propext ⟨fun h=>h.2,fun h=>⟨rfl,h⟩⟩
theorem Gk (i:Int):decide (V.int i=V.non)=false:=by simp
theorem Gm:decide (V.non=V.non)=true:=by simp
theorem Gn (a:Addr):decide (V.ref a=V.non)=false:=by simp
def abM (K:PySem.W.Frag):V→Option Int→Option Int→Hp→VK→Prop:=fun x lo hi H Q=>Xk K x lo hi H Q∨abu K x lo hi H Q
theorem Ls (hK:X.K=K):SlR X (abM K):=by
 subst hK
 intro pins s σ H x v vl vu lo hi sl Q I rx hs pl pu h
 rcases h with h | h
 ·exact N6 pins s σ H x v vl vu lo hi sl Q I rx hs pl pu h
 ·exact Z5 pins s σ H x v vl vu lo hi sl Q I rx hs pl pu h
theorem Hs {a:Addr} {xs:List V} {lo hi:Option Int} {H:Hp} {Q:VK} (hS:bA K H a xs) (hp:¬ (HT.iM xs.length 0 lo=0∧HT.iM xs.length xs.length hi=xs.length))
  (q:∀ p H',H p=none→bA K H' p (oW xs lo hi)→Same H H'→Q (.ref p) H'):abM K (.ref a) lo hi H Q:=by
 rcases hS with h | h
 ·exact .inl ⟨a,xs,rfl,h,fun p hp=>q p _ hp (.inl (SqL.of upd_same)) (Same.new hp)⟩
 ·exact .inr ⟨a,xs,rfl,h,hp,fun p hp=>q p _ hp (.inr (SqT.of upd_same)) (Same.new hp)⟩
end
section
variable {prog:Program} {w:World} {A:Around} {s:Shared} {R:Result→Shared→Prop}
end
section
variable {X:Cx} {scope:Scope} {x:Str} {elt iter tst:Expr} {wi:TI} {te:TE} {tt:TT} {px pos:Pos}
end
end L2
namespace L2
open PySem PySem.Spec PyProof.Rows
section
variable {X:Cx} {K:PySem.W.Frag}
def abN (K:PySem.W.Frag):R2:=fun x y H Q=>∃ a b xs ys,x=.ref a∧y=.ref b∧SqL K H a xs∧SqL K H b ys∧ys=[]∧Q (.bl (!decide (xs=[]))) H
theorem Qc (K:PySem.W.Frag) (a b:Addr) (H:Hp) (Q:VK):abN K (.ref a) (.ref b) H Q=∃ xs,SqL K H a xs∧SqL K H b []∧Q (.bl (!decide (xs=[]))) H:=by
 refine propext ⟨fun ⟨_,_,xs,ys,e1,e2,h1,h2,e3,q⟩=>?_,fun ⟨xs,h1,h2,q⟩=>⟨a,b,xs,[],rfl,rfl,h1,h2,rfl,q⟩⟩
 cases e1;cases e2;subst e3;exact ⟨xs,h1,h2,q⟩
theorem aax (hu:X.A.units+1<cLine):OpR X (compareOp .NotEq) (abN X.K):=by
 intro pins s σ H x y v u Q I rx ry h
 obtain ⟨a,b,xs,ys,rfl,rfl,h1,h2,rfl,q⟩:=h
 cases rx;cases ry
 obtain ⟨its,r,pl,hz⟩:=I.list h1
 obtain ⟨its2,r2,pl2,hz2⟩:=I.list h2
 cases r2
 cases xs with
 | nil =>
  cases r
  refine SeqAt.RcNeAt.lists (e:=fun _=>true) pl.isList pl2.isList rfl (by omega) (fun j h1 _=>absurd h1 (by simp)) _ _ _ _ ?_
  exact ⟨.bl false,H,I,rfl,q⟩
 | cons z zs =>
  have hlen:=r.length
  refine SeqAt.RcNeAt.lists_lengths pl.isList pl2.isList ?_ (by omega) _ _ _ _ ?_
  ·cases r with
   | cons _ _=>simp
  ·exact ⟨.bl true,H,I,rfl,by simpa using q⟩
end
end L2
namespace L2
open PySem PySem.Spec PyProof.Rows
section
variable {X:Cx} {scope:Scope} {x y:Str} {px py pos spos:Pos} {elt iter tst:Expr} {wi:TI} {te:TE} {tt:TT} {i:Nat}
end
end L2
namespace My
open PySem L2
def oV:Option Nat→V
 | none=>.non
 | some n=>vI n
def cand (ws:List Nat) (T:List (Option Nat)) (s:Nat):List Nat:=ws.filterMap fun w=>if 0<w∧w≤s then T.getD (s - w) none else none
def nxt (ws:List Nat) (T:List (Option Nat)) (s:Nat):Option Nat:=(cand ws T s).min?.map (· + 1)
def XH (ws:List Nat):Nat→List (Option Nat)
 | 0=>[some 0]
 | n+1=>XH ws n++[nxt ws (XH ws n) (n+1)]
end My
namespace L2
open PySem PySem.Spec PyProof.Rows
section
variable {X:Cx} {K:PySem.W.Frag}
end
theorem pW.base {K:PySem.W.Frag} {a:Addr} {xs:List V} {g:TG} {tb:TS} {D:Ends} {σ:St} {H H0:Hp} (hS:bA K H0 a xs) (Pv:Nat→St→Hp→Prop) (h0:Pv 0 σ H) (hl:∀ i σ H2,i≤xs.length→Pv i σ H2→Same H0 H2)
  (hs:∀ (i:Nat) (x:V) (σ:St) (H:Hp) (N:St→Hp→Prop),xs[i]? = some x→Pv i σ H→(∀ σ' H',Pv (i+1) σ' H'→N σ' H')→g x σ H fun σ2 H2=>tb { D with nx:=N,ct:=N,bk:=D.nx } σ2 H2) (hd:∀ σ H,Pv xs.length σ H→D.nx σ H):pW K a g tb D σ H:=by
 have hH:=hl 0 σ H (Nat.zero_le _) h0
 rcases hS with h | h
 ·exact .inl ⟨⟨xs,hH.seq h⟩,for_list Pv h0 (fun i σ H2 hi p=>(hl i σ H2 hi p).seq h) (fun i x σ H hi p=>hs i x σ H _ hi p fun _ _ q=>q) hd⟩
 ·exact .inr ⟨⟨xs,hH.Em h⟩,G3 Pv h0 (fun i σ H2 hi p=>(hl i σ H2 hi p).Em h) (fun i x σ H hi p=>hs i x σ H _ hi p fun _ _ q=>q) hd⟩
end L2
namespace My
open PySem L2
def tab (n:Nat) (F:Nat→Nat):List Nat:=(List.range n).map F
theorem dw (n:Nat) (F:Nat→Nat):(tab n F).length=n:=by unfold tab;rw [List.length_map,List.length_range]
theorem wU {n:Nat} {F:Nat→Nat} {i:Nat} (h:i<n):(tab n F)[i]? = some (F i):=by unfold tab;rw [List.getElem?_map,List.getElem?_range h];rfl
theorem Vn {n:Nat} {F:Nat→Nat} (i:Nat):(tab n F).getD i 0=if i<n then F i else 0:=by
 rw [List.getD_eq_getElem?_getD]
 by_cases h:i<n
 ·rw [wU h,if_pos h];rfl
 ·rw [if_neg h,List.getElem?_eq_none (by rw [dw];omega)];rfl
theorem yS {n:Nat} {F G:Nat→Nat} (h:∀ s,s<n→F s=G s):tab n F=tab n G:=by
 unfold tab
 exact List.map_congr_left fun s hs=>h s (List.mem_range.mp hs)
theorem cM {n:Nat} {F G:Nat→Nat} (h:∀ s,s<n→F s=G s):some (HO.lst ((tab n F).map vI))=some (HO.lst ((tab n G).map vI)):=by rw [yS h]
theorem Ht {n:Nat} {F:Nat→Nat} {j v:Nat}:(tab n F).set j v=tab n (fun s=>if s=j then v else F s):=by
 refine List.ext_getElem? fun i=>?_
 rw [List.getElem?_set]
 by_cases hi:i<n
 ·rw [wU hi,wU hi,dw]
  by_cases e:j=i
  ·subst e;rw [if_pos rfl,if_pos hi,if_pos rfl]
  ·rw [if_neg e,if_neg (fun z=>e z.symm)]
 ·rw [List.getElem?_eq_none (l:=tab n F) (by rw [dw];omega),List.getElem?_eq_none (by rw [dw];omega),dw]
  split
  ·rw [if_neg (by omega)]
  ·rfl
theorem JB (n:Nat):(List.replicate n [V.int 0]).flatten=(tab n (fun _=>0)).map vI:=by
 unfold tab
 rw [List.map_map]
 induction n with
 | zero=>rfl
 | succ n ih=>rw [List.replicate_succ,List.flatten_cons,ih,List.range_succ_eq_map,List.map_cons,List.map_map];rfl
theorem nM {n:Nat} {F:Nat→Nat} {i:Nat} (h:i<n):atI ((tab n F).map vI) (i:Int)=some (vI (F i)):=atI_nat (by rw [List.getElem?_map,wU h];rfl)
def sh (F:Nat→Nat) (ws:List Nat) (s:Nat):Nat:=(ws.map fun w=>if w≤s then F (s - w) else 0).sum
def yU (T ws:List Nat) (i s:Nat):Nat:=(ws.map fun w=>if w≤s∧s - w<i then T.getD (s - w) 0 else 0).sum
def lq (us:List Nat) (i m s:Nat):Nat:=(us.map fun w=>if s=i+w then m else 0).sum
theorem sum_map_congr {l:List Nat} {f g:Nat→Nat} (h:∀ x∈l,f x=g x):(l.map f).sum=(l.map g).sum:=by rw [List.map_congr_left h]
theorem sum_map_add (l:List Nat) (f g:Nat→Nat):(l.map fun x=>f x+g x).sum=(l.map f).sum+(l.map g).sum:=by
 induction l with
 | nil=>rfl
 | cons x r ih=>simp only [List.map_cons,List.sum_cons,ih];omega
theorem qe (l:List Nat):(l.map fun _=>0).sum=0:=by
 induction l with
 | nil=>rfl
 | cons x r ih=>simp only [List.map_cons,List.sum_cons,ih]
theorem Ry (T ws:List Nat) (s:Nat):yU T ws 0 s=0:=by
 unfold yU
 rw [sum_map_congr (g:=fun _=>0) (fun w _=>if_neg (by omega)),qe]
theorem Gp (T ws:List Nat) (i s:Nat):yU T ws (i+1) s=yU T ws i s+lq ws i (T.getD i 0) s:=by
 unfold yU lq
 rw [←sum_map_add]
 refine sum_map_congr fun w _=>?_
 by_cases h1:s=i+w
 ·subst h1
  rw [if_pos (by omega),if_neg (by omega),if_pos rfl,show i+w - w=i by omega];omega
 ·rw [if_neg h1]
  by_cases h2:w≤s∧s - w<i
  ·rw [if_pos h2,if_pos (by omega)];rfl
  ·rw [if_neg h2,if_neg (by omega)]
theorem Rz (us:List Nat) (i s:Nat):lq us i 0 s=0:=by
 unfold lq
 rw [sum_map_congr (g:=fun _=>0) (fun w _=>by split <;> rfl),qe]
theorem JC (i m s:Nat):lq [] i m s=0:=rfl
theorem Gq {ws:List Nat} {j w:Nat} (h:ws[j]? = some w) (i m s:Nat):lq (ws.take (j+1)) i m s=lq (ws.take j) i m s+if s=i+w then m else 0:=by
 unfold lq
 rw [List.take_add_one,h,List.map_append,List.sum_append]
 simp
theorem Vo (T ws:List Nat) (s:Nat):yU T ws T.length s=sh (fun i=>T.getD i 0) ws s:=by
 unfold yU sh
 refine sum_map_congr fun w _=>?_
 by_cases h:w≤s
 ·by_cases h2:s - w<T.length
  ·rw [if_pos ⟨h,h2⟩,if_pos h]
  ·rw [if_neg (by omega),if_pos h]
   show 0=T.getD (s - w) 0
   rw [List.getD_eq_getElem?_getD,List.getElem?_eq_none (by omega)];rfl
 ·rw [if_neg (by omega),if_neg h]
theorem Vp {F G:Nat→Nat} {ws:List Nat} {s:Nat} (h:∀ i,i≤s→F i=G i):sh F ws s=sh G ws s:=by
 unfold sh
 refine sum_map_congr fun w _=>?_
 by_cases h1:w≤s
 ·rw [if_pos h1,if_pos h1,h _ (by omega)]
 ·rw [if_neg h1,if_neg h1]
def spF (fs ws:List Nat):Nat→Nat→Nat
 | 0=>fun s=>fs.count s
 | k+1=>sh (spF fs ws k) ws
def spd (ws:List Nat) (len:Nat):Nat→Nat:=spF (if len=1 then ws else ws.tail) ws (len - 1)
end My
namespace My
open PySem L2
def tot (n:Nat) (F:Nat→Nat):Nat:=(tab n F).sum
theorem Vq (F:Nat→Nat):tot 0 F=0:=rfl
theorem dI (n:Nat) (F:Nat→Nat):tot (n+1) F=tot n F+F n:=by unfold tot tab;rw [List.range_succ,List.map_append,List.sum_append];simp
theorem gK {n:Nat} {F G:Nat→Nat} (h:∀ s,s<n→F s=G s):tot n F=tot n G:=by unfold tot;rw [yS h]
theorem XJ (n:Nat) (F G:Nat→Nat):tot n (fun s=>F s+G s)=tot n F+tot n G:=by
 induction n with
 | zero=>rfl
 | succ n ih=>rw [dI,dI,dI,ih];omega
theorem Cm (n:Nat):tot n (fun _=>0)=0:=by
 induction n with
 | zero=>rfl
 | succ n ih=>rw [dI,ih]
theorem ac8 {l:List Nat} {M:Int} (h:M∈l.map fun d:Nat=>(d:Int)):∃ m:Nat,M=(m:Int)∧m∈l:=by
 obtain ⟨m,h1,rfl⟩:=List.mem_map.mp h
 exact ⟨m,rfl,h1⟩
theorem XM {l:List Nat} {M:Int} (h:M∈l.map fun d:Nat=>(d:Int)) (hm:∀ a,a∈(l.map fun d:Nat=>(d:Int))→M≤a):∃ m:Nat,M=(m:Int)∧m∈l∧∀ x∈l,m≤x:=by
 obtain ⟨m,rfl,h1⟩:=ac8 h
 exact ⟨m,rfl,h1,fun x hx=>by have:=hm _ (List.mem_map_of_mem (f:=fun d:Nat=>(d:Int)) hx);omega⟩
end My
namespace My
open PySem L2
def cin (ws:List Nat) (lo m s:Nat):Nat:=tot m (fun i=>if fall ws (lo+i)=s then 1 else 0)
theorem Gr (p q:Nat) (F:Nat→Nat):tot (p+q) F=tot p F+tot q (fun i=>F (p+i)):=by
 induction q with
 | zero=>rfl
 | succ q ih=>rw [←Nat.add_assoc,dI,ih,dI];omega
theorem Cp (ws:List Nat) (lo m s:Nat):cin ws lo (m+1) s=cin ws lo m s+if fall ws (lo+m)=s then 1 else 0:=dI _ _
theorem wV (ws:List Nat) (lo s:Nat):cin ws lo 0 s=0:=rfl
theorem Vr (ws:List Nat):(List.range ws.length).map (wt ws)=ws:=by
 refine List.ext_getElem? fun i=>?_
 rw [List.getElem?_map]
 by_cases h:i<ws.length
 ·rw [List.getElem?_range h,Vc h];rfl
 ·rw [List.getElem?_eq_none (by rw [List.length_range];omega),List.getElem?_eq_none (by omega)];rfl
theorem Lw (ws:List Nat) (G:Nat→Nat):tot ws.length (fun d=>G (wt ws d))=(ws.map G).sum:=by
 conv=>rhs;rw [←Vr ws]
 rw [List.map_map];rfl
theorem o9 {ws:List Nat} (hb:2≤ws.length) {x d:Nat} (hx:1≤x) (hd:d<ws.length):fall ws (x*ws.length+d)=fall ws x+wt ws d:=by
 have h1:ws.length≤x*ws.length:=Nat.le_mul_of_pos_left _ hx
 rw [Pu hb (by omega)]
 have e1:(x*ws.length+d) % ws.length=d:=by rw [Nat.mul_comm,Nat.mul_add_mod,Nat.mod_eq_of_lt hd]
 have e2:(x*ws.length+d) / ws.length=x:=by
  rw [Nat.mul_comm,Nat.mul_add_div (by omega),Nat.div_eq_of_lt hd];rfl
 rw [e1,e2];omega
theorem Qd {ws:List Nat} (hb:2≤ws.length) {lo:Nat} (hl:1≤lo) (s:Nat):∀ m,cin ws (lo*ws.length) (m*ws.length) s=sh (cin ws lo m) ws s
 | 0=>by
  rw [Nat.zero_mul,wV]
  unfold sh
  rw [sum_map_congr (g:=fun _=>0) (fun w _=>by rw [wV];split <;> rfl),qe]
 | m+1=>by
  have ih:=Qd hb hl s m
  have h1:cin ws (lo*ws.length) ((m+1)*ws.length) s=cin ws (lo*ws.length) (m*ws.length) s+(ws.map fun w=>if fall ws (lo+m)+w=s then 1 else 0).sum:=by
   rw [Nat.add_mul,Nat.one_mul]
   unfold cin
   rw [Gr]
   congr 1
   rw [←Lw ws]
   refine gK fun d hd=>?_
   rw [show lo*ws.length+(m*ws.length+d)=(lo+m)*ws.length+d by rw [Nat.add_mul];omega,o9 hb (by omega) hd]
  rw [h1,ih]
  unfold sh
  rw [←sum_map_add]
  refine sum_map_congr fun w _=>?_
  by_cases e:w≤s
  ·rw [if_pos e,if_pos e,Cp]
   congr 1
   by_cases e2:fall ws (lo+m)+w=s
   ·rw [if_pos e2,if_pos (by omega)]
   ·rw [if_neg e2,if_neg (by omega)]
  ·rw [if_neg e,if_neg e,if_neg (by omega)]
theorem count_range (ws:List Nat) (s:Nat):ws.count s=tot ws.length (fun d=>if wt ws d=s then 1 else 0):=by
 rw [Lw ws (fun w=>if w=s then 1 else 0)]
 induction ws with
 | nil=>rfl
 | cons x r ih =>
  rw [List.count_cons,ih,List.map_cons,List.sum_cons]
  by_cases e:x=s
  ·rw [e,beq_self_eq_true];simp;omega
  ·rw [show (x == s)=false by simpa using e,if_neg (c:=x=s) e];simp
theorem Vs {ws:List Nat} (hb:2≤ws.length) (s:Nat):cin ws 1 (ws.length - 1) s=ws.tail.count s:=by
 obtain ⟨w0,r,rfl⟩:∃ w0 r,ws=w0::r:=by
  cases ws with
  | nil=>simp at hb
  | cons x r=>exact ⟨x,r,rfl⟩
 rw [List.tail_cons,count_range r,List.length_cons,Nat.add_sub_cancel]
 unfold cin
 refine gK fun d hd=>?_
 rw [mQ (by rw [List.length_cons];omega),Nat.add_comm 1 d]
 rfl
theorem mR {ws:List Nat} (hb:2≤ws.length) (hw:∀ x∈ws,x≤50) {n x:Nat} (hn:1≤n) (h:x<ws.length ^ n):fall ws x≤50*n:=by
 have h1:=wK hw x
 have h2:=BZ hb n x hn h
 omega
end My
namespace L2
open PySem PySem.Spec PyProof.Rows
theorem Vt (j:Int) (H:Hp) (Q:VK):rNe .non (.int j) H Q=Q (.bl true) H:=by
 have e:decide (V.non=V.int j)=false:=by simp
 refine propext ⟨fun ⟨_,q⟩=>by rw [e] at q;exact q,fun q=>⟨rfl,by rw [e];exact q⟩⟩
end L2
namespace My
open PySem L2
def tb (ws:List Nat) (s:Nat):Option Nat:=(XH ws s).getD s none
end My
namespace My
open PySem L2
end My
namespace My
open PySem L2
end My
namespace L2
open PySem PySem.Spec PyProof.Rows
section
variable {X:Cx} {K:PySem.W.Frag}
end
end L2
namespace My
open PySem L2
end My
namespace L2
open PySem PySem.Spec PyProof.Rows
def MethAt (K:PySem.W.Frag) (c m qual:Str) (st:Stmt) (ps:List Str):Prop:=∃ f fd,Fun K m qual st f fd∧Meth K (sW K c) m f∧Binds K fd ps []
def vJ (K:PySem.W.Frag) (c qual:Str) (st:Stmt) (ps:List Str):Prop:=∃ f fd,Fun K "__init__" qual st f fd∧Mk K (sW K c) f∧Binds K fd ps []
def pA (P:Program) (w:World) (K:PySem.W.Frag) (mg:Str→Option Value) (base:Heap) (CX:CXT) (k:Nat) (c m:Str) (ps:List Str) (sp:Sp):Prop :=
 ∃ f fd,FnOk P w K mg base CX k f fd ps sp∧Meth K (sW K c) m f∧Binds K fd ps []
def JD (P:Program) (w:World) (K:PySem.W.Frag) (mg:Str→Option Value) (base:Heap) (CX:CXT) (k:Nat) (c:Str) (ps:List Str) (sp:Sp):Prop :=
 ∃ f fd,FnOk P w K mg base CX k f fd ps sp∧Mk K (sW K c) f∧Binds K fd ps []
section
variable {P:Program} {w:World} {K:PySem.W.Frag} {mg:Str→Option Value} {base:Heap} {c m qual:Str} {st:Stmt} {N ps:List Str} {k:Nat} {sp:Sp} {sc:Scope} {bd:List Stmt}
theorem MethAt.aZ (hsc:defScope st=sc) (hbd:defBody st=bd) (F:MethAt K c m qual st ps) (S:FnScope N ps sc) (len:∀ vs H Q E,sp vs H Q E→vs.length=ps.length)
  (hbody:∀ (f:Addr) (cdv:Value) (A:Around) (outer:List Env) (s:Shared) (H:Hp) (vs:List V) (Q:VK) (E:XK),Room k (A.deeper (envOfC qual sc s.heap.objs.size f cdv))→sp vs H Q E →
   ∃ t,QB (cxOf CX0 P w K mg base N qual sc f cdv A outer s H E).nox bd t∧t { nx:=fun _ H'=>Q .non H',rt:=Q } (L2.start N vs) H):pA P w K mg base CX0 (k+1) c m ps sp:=by
 obtain ⟨f,fd,F,hm,hb⟩:=F
 exact ⟨f,fd,F.okQ hsc hbd S len (hbody f),hm,hb⟩
theorem vJ.aZ (hsc:defScope st=sc) (hbd:defBody st=bd) (F:vJ K c qual st ps) (S:FnScope N ps sc) (len:∀ vs H Q E,sp vs H Q E→vs.length=ps.length)
  (hbody:∀ (f:Addr) (cdv:Value) (A:Around) (outer:List Env) (s:Shared) (H:Hp) (vs:List V) (Q:VK) (E:XK),Room k (A.deeper (envOfC qual sc s.heap.objs.size f cdv))→sp vs H Q E →
   ∃ t,QB (cxOf CX0 P w K mg base N qual sc f cdv A outer s H E).nox bd t∧t { nx:=fun _ H'=>Q .non H',rt:=Q } (L2.start N vs) H):JD P w K mg base CX0 (k+1) c ps sp:=by
 obtain ⟨f,fd,F,hm,hb⟩:=F
 exact ⟨f,fd,F.okQ hsc hbd S len (hbody f),hm,hb⟩
theorem XQ {h:Heap} {f C:Addr} {oc:Value} {od an:Option Addr} {osl:Array (Option Value)} {kV doc pm cdv ct:Value} (KX:K.In h) (aC:PySem.W.nsIn K mainGlobals c=some (some (.ref C)))
  (a:PySem.W.findIn K (.ref C) m=some (some (.ref f))) (i:PySem.W.isFn K (.ref f)=true) (l:K.lookup f=some ⟨oc,od,.func (PySem.W.fnOf m qual (defArgs st) (defBody st) (defScope st) .none kV doc pm an cdv ct),osl⟩) (cd:PySem.W.codeIn K cdv qual=true) (kp:PySem.W.keepIn K (.ref f)=true)
  (hb:∀ (kV doc pm:Value) (an:Option Addr) (cdv ct:Value) (us:List Value),us.length=ps.length→bindArgs (PySem.W.fnOf m qual (defArgs st) (defBody st) (defScope st) .none kV doc pm an cdv ct) ⟨us,[]⟩=pure (ps.zip us)):MethAt K c m qual st ps:=by
 refine ⟨f,_,fun_mk l cd kp,?_,(fun_mk l cd kp).binds hb⟩
 rw [Ci aC]
 exact ⟨a,i,kp⟩
theorem XR {h:Heap} {f C:Addr} {oc:Value} {od an:Option Addr} {osl:Array (Option Value)} {kV doc pm cdv ct:Value} (KX:K.In h) (aC:PySem.W.nsIn K mainGlobals c=some (some (.ref C)))
  (a:PySem.W.findIn K (.ref C) "__init__" = some (some (.ref f))) (i:PySem.W.isFn K (.ref f)=true) (l:K.lookup f=some ⟨oc,od,.func (PySem.W.fnOf "__init__" qual (defArgs st) (defBody st) (defScope st) .none kV doc pm an cdv ct),osl⟩) (cd:PySem.W.codeIn K cdv qual=true) (kp:PySem.W.keepIn K (.ref f)=true)
  (mk:PySem.W.makesIn K C=true) (kc:PySem.W.keepIn K (.ref C)=true)
  (hb:∀ (kV doc pm:Value) (an:Option Addr) (cdv ct:Value) (us:List Value),us.length=ps.length→bindArgs (PySem.W.fnOf "__init__" qual (defArgs st) (defBody st) (defScope st) .none kV doc pm an cdv ct) ⟨us,[]⟩=pure (ps.zip us)):vJ K c qual st ps:=by
 refine ⟨f,_,fun_mk l cd kp,?_,(fun_mk l cd kp).binds hb⟩
 rw [Ci aC]
 exact ⟨mk,a,i,kc⟩
end
structure ClsAt (K:PySem.W.Frag) (mg:Str→Option Value) (c:Str):Prop where
 cl:Cls K (sW K c)
 mg:mg c=some (.ref (sW K c))
theorem JF {K:PySem.W.Frag} {mg:Str→Option Value} {h:Heap} {c:Str} {C:Addr} (KX:K.In h) (G:h.Ns mainGlobals mg) (aC:PySem.W.nsIn K mainGlobals c=some (some (.ref C))) (pg:PySem.W.plainGet K C Str.empty=true) (hd:PySem.W.hasDictIn K C=true) (po:PySem.W.plainOver K C=true)
  (sa:PySem.W.findIn K (.ref C) "__setattr__" = some (some (.builtin "object.__setattr__"))):ClsAt K mg c:=by
 refine ⟨?_,?_⟩
 ·rw [Ci aC];exact ⟨pg,hd,po,sa⟩
 ·rw [Ci aC];exact PySem.W.mg_of KX G aC
def pB (K:PySem.W.Frag) (c f:Str):Prop:=NoAttr K (sW K c) f
theorem Hu {K:PySem.W.Frag} {c f:Str} {C:Addr} (aC:PySem.W.nsIn K mainGlobals c=some (some (.ref C))) (n:PySem.W.findIn K (.ref C) f=some none):pB K c f:=by
 unfold pB;rw [Ci aC];exact n
section
variable {X:Cx} {K:PySem.W.Frag} {o e value:Expr} {es:List Expr} {ta tv td ty tx:TE} {t:TA} {f m c x:Str} {pos pos' apos cpos p:Pos}
theorem dg (hK:X.K=K) (he:QE X e ta) (hb:attributeBase e f X.env (eval e X.env)=eval e X.env:=by rfl):QE X (.Attribute e f pos) (tFld K ta f):=by
 subst hK;exact ⟨pe_fld he.h hb⟩
theorem Lx (hK:X.K=K) (ha:QE X o ta) (hv:QE X value tv) (hs:swapsWith value (some (.Attribute o f pos')) pos.line X.env=pure false:=by rfl):QS X (.Assign [.Attribute o f pos'] value pos) (sFld K ta tv f):=by
 subst hK;exact ⟨ps_fld ha.h hv.h hs⟩
theorem cX {CX:CXT} {k:Nat} {ps:List Str} {sp:Sp} {E:XK} {pl:Sem Bool} (hK:X.K=K) (ca:ClsAt K X.mg c) (g:pA X.prog X.w K X.mg X.base CX k c m ps sp) (hr:Room k X.A) (hx:Passes CX X E) (he:QE X o ta) (ha:QA X (e::es) t)
  (hst:starEach (e::es) X.env=(false,eval e X.env)::starEach es X.env:=by rfl) (hpl:(backTo pos (starEach es X.env)).any (·.1)=false:=by rfl)
  (ht:eval (.Call (.Attribute o m apos) (e::es) [] pos) X.env=(do
   let ov ←eval o X.env
   standAt apos.atName
   let (f,first) ←holding [ov] (getMethod ov m pl)
   callWith pos f first (backTo pos (starEach (e::es) X.env)) (backToKw pos (keywordEach [] X.env))):=by rfl) :
  QE X (.Call (.Attribute o m apos) (e::es) [] pos) (tMeth (sW K c) m sp [] E ta t):=by
 subst hK
 obtain ⟨f,fd,F,hm,hb⟩:=g
 exact ⟨pe_meth (pl:=pl) he.h ca.cl hm F hr hb .nil hx ha.h hst hpl ht⟩
theorem Vu {CX:CXT} {k:Nat} {ps:List Str} {sp:Sp} {E:XK} {pl:Sem Bool} (hK:X.K=K) (ca:ClsAt K X.mg c) (g:pA X.prog X.w K X.mg X.base CX k c m ps sp) (hr:Room k X.A) (hx:Passes CX X E) (he:QE X o ta)
  (ht:eval (.Call (.Attribute o m apos) [] [] pos) X.env=(do
   let ov ←eval o X.env
   standAt apos.atName
   let (f,first) ←holding [ov] (getMethod ov m pl)
   callWith pos f first (backTo pos (starEach [] X.env)) (backToKw pos (keywordEach [] X.env))):=by rfl) :
  QE X (.Call (.Attribute o m apos) [] [] pos) (tMeth (sW K c) m sp [] E ta tNil):=by
 subst hK
 obtain ⟨f,fd,F,hm,hb⟩:=g
 exact ⟨Tj (pl:=pl) he.h ca.cl hm F hr hb .nil hx ht⟩
theorem XS {CX:CXT} {k:Nat} {ps:List Str} {sp:Sp} {E:XK} (hK:X.K=K) (ca:ClsAt K X.mg x) (g:JD X.prog X.w K X.mg X.base CX k x ps sp) (hr:Room (k+1) X.A) (hx:Passes CX X E) (ha:QA X (e::es) t) (hg:Gl X x:=by rfl)
  (hdb:(x == ("__debug__":Str))=false:=by decide) (he:starEach (e::es) X.env=(false,eval e X.env)::starEach es X.env:=by rfl) (hpl:(backTo pos (starEach es X.env)).any (·.1)=false:=by rfl) :
  QE X (.Call (.Name x p) (e::es) [] pos) (tMake (sW K x) sp [] E t):=by
 subst hK
 obtain ⟨f,fd,F,hm,hb⟩:=g
 exact ⟨Xh hm F hr hg ca.mg hb .nil hx ha.h hdb he hpl⟩
theorem Vv {CX:CXT} {k:Nat} {ps:List Str} {sp:Sp} {E:XK} (hK:X.K=K) (ca:ClsAt K X.mg x) (g:JD X.prog X.w K X.mg X.base CX k x ps sp) (hr:Room (k+1) X.A) (hx:Passes CX X E) (hg:Gl X x:=by rfl)
  (hdb:(x == ("__debug__":Str))=false:=by decide):QE X (.Call (.Name x p) [] [] pos) (tMake (sW K x) sp [] E tNil):=by
 subst hK
 obtain ⟨f,fd,F,hm,hb⟩:=g
 exact ⟨pe_make0 hm F hr hg ca.mg hb .nil hx hdb⟩
theorem Vw (ho:QE X o td) (he:QE X e ty) (m:M1 X o "pop" apos e cpos:=by exact ⟨rfl,rfl,rfl,rfl⟩):QE X (.Call (.Attribute o "pop" apos) [e] [] cpos) (Li td ty):=⟨TV ho.h he.h m⟩
theorem Vx (K:PySem.W.Frag) (ta:TE) (f:Str) (σ:St) (H:Hp) (Q:VK):tFld K ta f σ H Q=ta σ H fun x H1=>FZ x fun a=>∃ C dx fs,H1 a=some (.ins C dx fs)∧Cls K C∧NoAttr K C f∧∃ v,fs.lookup f=some v∧Q v H1:=by
 unfold tFld FZ
 congr;funext x H1
 exact propext ⟨fun ⟨a,C,dx,fs,v,e,h1,h2,h3,h4,q⟩=>⟨a,e,C,dx,fs,h1,h2,h3,v,h4,q⟩,fun ⟨a,e,C,dx,fs,h1,h2,h3,v,h4,q⟩=>⟨a,C,dx,fs,v,e,h1,h2,h3,h4,q⟩⟩
theorem Qe (K:PySem.W.Frag) (ta tv:TE) (f:Str) (D:Ends) (σ:St) (H:Hp):sFld K ta tv f D σ H=tv σ H fun y H1=>ta σ H1 fun x H2=>FZ x fun a=>∃ C dx fs,H2 a=some (.ins C dx fs)∧Cls K C∧NoAttr K C f∧fs.length<1000∧D.nx σ (upd H2 a (.ins C dx (putF f y fs))):=by
 unfold sFld FZ
 congr;funext y H1;congr;funext x H2
 exact propext ⟨fun ⟨a,C,dx,fs,e,h⟩=>⟨a,e,C,dx,fs,h⟩,fun ⟨a,e,C,dx,fs,h⟩=>⟨a,C,dx,fs,e,h⟩⟩
theorem Qf (C:Addr) (m:Str) (sp:Sp) (E:XK) (ta:TE) (t:TA) (σ:St) (H:Hp) (Q:VK):tMeth C m sp [] E ta t σ H Q=ta σ H fun x H1=>FZ x fun a=>∃ dx fs,H1 a=some (.ins C dx fs)∧fs.lookup m=none∧t σ H1 fun vs H2=>sp (.ref a::vs) H2 Q E:=by
 unfold tMeth FZ
 congr;funext x H1
 simp only [List.append_nil]
 refine propext ⟨fun ⟨a,dx,fs,e,h1,h2,q⟩=>⟨a,e,dx,fs,h1,h2,?_⟩,fun ⟨a,e,dx,fs,h1,h2,q⟩=>⟨a,dx,fs,e,h1,h2,?_⟩⟩
 ·subst e;exact q
 ·subst e;exact q
theorem Qg (C:Addr) (sp:Sp) (E:XK) (t:TA) (σ:St) (H:Hp) (Q:VK):tMake C sp [] E t σ H Q=t σ H fun vs H1=>∀ x dx,H1 x=none→H1 dx=none→dx≠x→sp (.ref x::vs) (upd (upd H1 dx (.own x)) x (.ins C dx [])) (fun v H2=>v=.non∧Q (.ref x) H2) E:=by
 unfold tMake;simp only [List.append_nil]
theorem JG (td ty:TE) (σ:St) (H:Hp) (Q:VK):Li td ty σ H Q=td σ H fun x H1=>FZ x fun a=>IsD H1 a∧ty σ H1 fun y H2=>∃ kvs k v,H2 a=some (.dK kvs)∧y=kV k∧valV kvs k=some v∧Q v (upd H2 a (.dK (dropK kvs k))):=rfl
theorem Qh (l:Addr) (H:Hp) (Q:VK):abw (.ref l) [] H Q=∃ xs,H l=some (.lst xs)∧∃ y,xs[xs.length - 1]? = some y∧Q y (upd H l (.lst xs.dropLast)):=by
 refine propext ⟨fun ⟨_,xs,y,e1,_,h1,h2,q⟩=>?_,fun ⟨xs,h1,y,h2,q⟩=>⟨l,xs,y,rfl,rfl,h1,h2,q⟩⟩
 cases e1;exact ⟨xs,h1,y,h2,q⟩
theorem Gs (l:Addr) (i:Int) (H:Hp) (Q:VK):Tz (.ref l) [.int i] H Q=∃ xs,H l=some (.lst xs)∧(-(2 ^ 63)≤i∧i<2 ^ 63)∧∃ k,seqIndex? i xs.length=some k∧∃ y,xs[k]? = some y∧Q y (upd H l (.lst (xs.eraseIdx k))):=by
 refine propext ⟨fun ⟨_,xs,_,k,y,e1,e2,h1,h2,h3,h4,h5,q⟩=>?_,fun ⟨xs,h1,⟨h2,h3⟩,k,h4,y,h5,q⟩=>⟨l,xs,i,k,y,rfl,rfl,h1,h2,h3,h4,h5,q⟩⟩
 cases e1;cases e2;exact ⟨xs,h1,⟨h2,h3⟩,k,h4,y,h5,q⟩
def Ze:List V→Hp→VK→Prop:=fun xs H Q=>∃ a kvs,xs=[V.ref a]∧H a=some (.dK kvs)∧Q (.int kvs.length) H
theorem Ly:CallR X (.builtin "len") Ze:=call_lenD
theorem JH (a:Addr) (H:Hp) (Q:VK):Ze [.ref a] H Q=∃ kvs,H a=some (.dK kvs)∧Q (.int kvs.length) H:=by
 refine propext ⟨fun ⟨_,kvs,e,h⟩=>?_,fun ⟨kvs,h⟩=>⟨a,kvs,rfl,h⟩⟩
 cases e;exact ⟨kvs,h⟩
def Vy:List V→Hp→VK→Prop:=fun xs H Q=>∃ a kvs,xs=[V.ref a]∧H a=some (.dK kvs)∧∀ l,H l=none→Q (.ref l) (upd H l (.lst (kvs.map fun kv=>kV kv.1)))
theorem Gu (a:Addr) (H:Hp) (Q:VK):Vy [.ref a] H Q=∃ kvs,H a=some (.dK kvs)∧∀ l,H l=none→Q (.ref l) (upd H l (.lst (kvs.map fun kv=>kV kv.1))):=by
 refine propext ⟨fun ⟨_,kvs,e,h⟩=>?_,fun ⟨kvs,h⟩=>⟨a,kvs,rfl,h⟩⟩
 cases e;exact ⟨kvs,h⟩
theorem aay {P:Program} {w:World} {k:Key} {u:Value} (h:(mixKind P w).is k u=true):RelV (kV k) u:=by
 rcases keyIs_shape h with ⟨i,t,rfl,rfl⟩ | ⟨x,t,rfl,rfl⟩
 ·exact ⟨t,rfl⟩
 ·exact ⟨t,rfl⟩
theorem Hv:∀ {xs:List V} {us:List Value},xs.length=us.length→(∀ (j:Nat) (x:V) (u:Value),xs[j]? = some x→us[j]? = some u→RelV x u)→Vals xs us
 | [],[],_,_=>.nil
 | x::xs,u::us,hl,h=>.cons (h 0 x u rfl rfl) (Hv (by simpa using hl) fun j y v e1 e2=>h (j+1) y v (by simpa using e1) (by simpa using e2))
 | [],_::_,hl,_=>by simp at hl
 | _::_,[],hl,_=>by simp at hl
theorem Lz (hc:X.calm=true):CallR X (.type "list") Vy:=by
 intro pins s σ H xs us Q I r h
 obtain ⟨a,kvs,rfl,ha,q⟩:=h
 obtain ⟨u,rfl,rx⟩:=vals1 r
 cases rx
 obtain ⟨hz,lo,vs,rel,dd⟩:=dk_of I.hok ha
 obtain ⟨ep,hat⟩:=dd.dictAt
 have hlen:=rel.length
 refine PySem.W.kdl_call (PySem.W.kdl_dict (knd:=mixKind X.prog X.w) (kvs:=vs) (ep:=ep) lo) (I.ok.hd hc) hat (by omega) fun h' tk acc' c' hk hS hacc=>?_
 have hv:Vals (kvs.map fun kv=>kV kv.1) acc'.toList:=by
  refine Hv (by have h9:=hacc.1;simp only [List.length_map,Array.length_toList];omega) fun j x u e1 e2=>?_
  rw [Array.getElem?_toList] at e2
  obtain ⟨k,y,e3,e4⟩:=hacc.2 j u e2
  have hkeys:=rel.keys
  have e5:(kvs.map (·.1))[j]? = some k:=by rw [hkeys,List.getElem?_map,e3];rfl
  rw [List.getElem?_map] at e1 e5
  cases hkv:kvs[j]? with
  | none=>rw [hkv] at e1;cases e1
  | some kv =>
   rw [hkv] at e1 e5
   have h1:kV kv.1=x:=Option.some.inj e1
   have h2:kv.1=k:=Option.some.inj e5
   rw [←h1,h2]
   exact aay e4
 refine ⟨.ref s.heap.objs.size,_,I.laid (t':=tk) hk (Nat.le_refl _) (show ObjOk X.prog X.w _ h' _ (.lst _) from ⟨by rw [List.length_map];exact hz,acc'.toList,c',hv,?_⟩),rfl,q _ (I.hok.fresh (Nat.le_refl _))⟩
 simpa using hS
end
end L2
namespace L2
open PySem PySem.Spec PyProof.Rows
section
variable {P:Program} {w:World} {X:Cx} {tg:Expr} {pins:List (Addr×Obj)} {σ:St} {H:Hp} {s:Shared} {a:Addr} {ob:Obj} {kvs:List (Key×V)}
end
section
variable {X:Cx}
theorem JK {pos:Pos} {k v:Expr} {tk tv:TE} (hk:QE X k tk) (hv:QE X v tv):QE X (.Dict [some k] [v] pos) (TQ [(tk,tv)]):=⟨Xr (TJ hk.h hv.h Xq) rfl rfl (by simp) (by simp)⟩
theorem JL (tk tv:TE) (σ:St) (H:Hp) (Q:VK):TQ [(tk,tv)] σ H Q=∀ p,H p=none→tk σ (upd H p (.dK [])) fun x H1=>tv σ H1 fun y H2=>H2 p=some (.dK [])∧∃ kvs:List (Key×V),[(x,y)]=kvs.map (fun kv=>(kV kv.1,kv.2))∧kvs.length≤15∧Q (.ref p) (upd H2 p (.dK (sS [] kvs))):=rfl
end
end L2
namespace My
open PySem L2
def conv (F G:Nat→Nat) (T:Nat):Nat:=tot (T+1) (fun t=>F t*G (T - t))
end My
namespace My
open PySem L2
def X3 (x:Nat):List Nat→List Nat
 | []=>[x]
 | y::r=>if x≤y then x::y::r else y::X3 x r
def X4:List Nat→List Nat
 | []=>[]
 | x::r=>X3 x (X4 r)
theorem Gv (x:Nat):∀ l:List Nat,(X3 x l).Perm (x::l)
 | []=>List.Perm.refl _
 | y::r=>by
  unfold X3
  split
  ·exact List.Perm.refl _
  ·exact ((Gv x r).cons y).trans (List.Perm.swap x y r)
theorem Gw:∀ l:List Nat,(X4 l).Perm l
 | []=>List.Perm.refl _
 | x::r=>(Gv x (X4 r)).trans ((Gw r).cons x)
def dgF (b:Nat):Nat→Nat→List Nat
 | 0,n=>[n]
 | k+1,n=>if n<b then [n] else n % b::dgF b k (n / b)
theorem LC {b:Nat} (hb:2≤b):∀ k n,n<2 ^ (k+1)→dgF b k n=fl b n
 | 0,n,h=>by
  show [n]=fl b n
  rw [rH (by have:(2:Nat) ^ (0+1)=2:=rfl;omega)]
 | k+1,n,h=>by
  unfold dgF
  by_cases e:n<b
  ·rw [if_pos e,rH e]
  ·rw [if_neg e,u6 hb (by omega),LC hb k (n / b) ?_]
   have h1:n / b≤n / 2:=Nat.div_le_div_left hb (by decide)
   rw [Nat.pow_succ] at h
   omega
def RB (b n:Nat):List Nat:=X4 (dgF b 8 n)
def classes (b:Nat):List (List Nat):=(((List.range 451).filter fun n=>decide (n≤50*(dgF b 8 n).length)).map (RB b)).eraseDups
theorem JM:∀ b,b<17→2≤b→(classes b).length<128:=by decide +kernel
theorem LK {α:Type} [DecidableEq α]:∀ (l D:List α),l.Nodup→(∀ x∈l,x∈D)→l.length≤D.length
 | [],_,_,_=>Nat.zero_le _
 | x::r,D,nd,h=>by
  rw [List.nodup_cons] at nd
  have hx:=h x List.mem_cons_self
  have h1:=LK r (D.erase x) nd.2 (fun y hy=>(List.mem_erase_of_ne (fun z:y=x=>nd.1 (by rw [←z];exact hy))).mpr (h y (List.mem_cons_of_mem _ hy)))
  rw [List.length_erase_of_mem hx] at h1
  have:0<D.length:=List.length_pos_of_mem hx
  rw [List.length_cons]
  omega
theorem Vz {l m:List Nat} (h:l.Perm m):l.sum=m.sum:=by
 induction h with
 | nil=>rfl
 | cons x _ ih=>rw [List.sum_cons,List.sum_cons,ih]
 | swap x y r=>rw [List.sum_cons,List.sum_cons,List.sum_cons,List.sum_cons];omega
 | trans _ _ i1 i2=>exact i1.trans i2
theorem yV {ws:List Nat} (h2:2≤ws.length) (Zf:ws.length≤16) (hw:∀ x∈ws,x≤50) {Ms:List Nat} (nd:Ms.Nodup) (hM:∀ M∈Ms,∃ R L,aX (fall ws) R M L):Ms.length<128:=by
 have small:∀ M∈Ms,M≤50*(fl ws.length M).length∧M<451:=fun M hm=>by
  obtain ⟨R,L,h⟩:=hM M hm
  have h1:M≤fall ws M:=h.low _ (h.eO 1)
  refine ⟨Nat.le_trans h1 (wK hw M),?_⟩
  apply Nat.lt_of_not_le
  intro z
  have:=eN h2 hw z
  omega
 have rep:∀ M∈Ms,(RB ws.length M).Perm (fl ws.length M):=fun M hm=>by
  unfold RB
  rw [LC h2 8 M (by have:=(small M hm).2;have:(2:Nat) ^ 9=512:=rfl;omega)]
  exact Gw _
 have inj:∀ M∈Ms,∀ N∈Ms,RB ws.length M=RB ws.length N→M=N:=fun M hm N hn e=>by
  obtain ⟨R,L,h⟩:=hM M hm
  obtain ⟨R',L',h'⟩:=hM N hn
  have hp:(fl ws.length M).Perm (fl ws.length N):=(rep M hm).symm.trans (by rw [e];exact rep N hn)
  have hf:fall ws M=fall ws N:=Vz (hp.map (wt ws))
  have m1:it (fall ws) (fall ws M) 0∈R:=h.eO 1
  have m2:it (fall ws) (fall ws M) 0∈R':=by rw [hf];exact h'.eO 1
  exact (h.uniq h' m1 m2).2
 have h1:(Ms.map (RB ws.length)).length≤(classes ws.length).length:=by
  refine LK _ _ (List.pairwise_map.mpr (nd.imp_of_mem fun {x y} hx hy hne e=>hne (inj x hx y hy e))) (fun r hr=>?_)
  obtain ⟨M,hm,rfl⟩:=List.mem_map.mp hr
  unfold classes
  rw [List.mem_eraseDups]
  refine List.mem_map_of_mem (List.mem_filter.mpr ⟨List.mem_range.mpr (small M hm).2,decide_eq_true ?_⟩)
  rw [LC h2 8 M (by have:=(small M hm).2;have:(2:Nat) ^ 9=512:=rfl;omega)]
  exact (small M hm).1
 rw [List.length_map] at h1
 exact Nat.lt_of_le_of_lt h1 (JM _ (by omega) h2)
end My
namespace My
open PySem L2
structure Met (f:Nat→Nat) (i:Nat) (ks:List Nat):Prop where
 clo:∀ n∈ks,f n∈ks
 le:∀ n∈ks,n≤450
 nd:ks.Nodup
 all:∀ s,s<i→s∈ks
theorem Hw {f:Nat→Nat} {ks:List Nat} (h:∀ n∈ks,f n∈ks) {n:Nat} (hn:n∈ks):∀ t,it f n t∈ks
 | 0=>hn
 | t+1=>h _ (Hw h hn t)
structure Rgs (f:Nat→Nat) (ks:List Nat) (Rs:List (List Nat)):Prop where
 ring:∀ R∈Rs,∃ M L,aX f R M L∧M∈ks
 nd:(Rs.map fun R=>R.headD 0).Nodup
 all:∀ R M L,aX f R M L→M∈ks→R∈Rs
theorem aX.headD {f:Nat→Nat} {R:List Nat} {M L:Nat} (h:aX f R M L):R.headD 0=M:=by
 have:=h.head
 cases R with
 | nil=>cases this
 | cons x r=>exact Option.some.inj this
structure K4 (f:Nat→Nat) (i:Nat) (ks:List Nat) (t:Nat):Prop where
 nd:(ks++path f i t).Nodup
theorem K4.zero {f:Nat→Nat} {i:Nat} {ks:List Nat} (h:ks.Nodup):K4 f i ks 0:=⟨by show (ks++[]).Nodup;rw [List.append_nil];exact h⟩
theorem K4.succ {f:Nat→Nat} {i t:Nat} {ks:List Nat} (h:K4 f i ks t) (hn:it f i t ∉ ks++path f i t):K4 f i ks (t+1):=by
 constructor
 rw [gJ,←List.append_assoc]
 refine List.nodup_append.mpr ⟨h.nd,by simp,fun a ha b hb e=>?_⟩
 rw [List.mem_singleton.mp hb] at e
 exact hn (e ▸ ha)
theorem K4.short {f:Nat→Nat} {i t:Nat} {ks:List Nat} (h:K4 f i ks t) (hle:∀ n∈ks,n≤450) (hp:∀ j,it f i j≤450):t≤451∧(ks++path f i t).length≤451:=by
 have h1:=yP 451 (ks++path f i t) h.nd (fun x hx=>by
  rcases List.mem_append.mp hx with z | z
  ·have:=hle x z;omega
  ·obtain ⟨j,_,e⟩:=bw.mp z
   have:=hp j;omega)
 refine ⟨?_,h1⟩
 rw [List.length_append,bf] at h1
 omega
theorem Met.next {f:Nat→Nat} {i t:Nat} {ks:List Nat} (m:Met f i ks) (h:K4 f i ks t) (hp:∀ j,it f i j≤450) (hc:it f i t∈ks++path f i t):Met f (i+1) (ks++path f i t) where
 clo:=fun n hn=>by
  rcases List.mem_append.mp hn with z | z
  ·exact List.mem_append_left _ (m.clo n z)
  ·obtain ⟨j,hj,rfl⟩:=bw.mp z
   show it f i (j+1)∈_
   by_cases e:j+1=t
   ·rw [e];exact hc
   ·exact List.mem_append_right _ (bw.mpr ⟨j+1,by omega,rfl⟩)
 le:=fun n hn=>by
  rcases List.mem_append.mp hn with z | z
  ·exact m.le n z
  ·obtain ⟨j,_,e⟩:=bw.mp z
   rw [←e];exact hp j
 nd:=h.nd
 all:=fun s hs=>by
  by_cases e:s=i
  ·subst e
   by_cases e2:t=0
   ·subst e2;exact hc
   ·exact List.mem_append_right _ (bw.mpr ⟨0,by omega,rfl⟩)
  ·exact List.mem_append_left _ (m.all s (by omega))
theorem Rgs.old {f:Nat→Nat} {i t:Nat} {ks:List Nat} {Rs:List (List Nat)} (m:Met f i ks) (g:Rgs f ks Rs) (hc:it f i t∈ks):Rgs f (ks++path f i t) Rs where
 ring:=fun R hR=>by
  obtain ⟨M,L,h,hM⟩:=g.ring R hR
  exact ⟨M,L,h,List.mem_append_left _ hM⟩
 nd:=g.nd
 all:=fun R M L h hM=>by
  rcases List.mem_append.mp hM with z | z
  ·exact g.all R M L h z
  ·obtain ⟨j,hj,e⟩:=bw.mp z
   have h1:it f M (t - j)=it f i t:=by rw [←e,←fH,show j+(t - j)=t by omega]
   have h2:it f i t∈R:=by rw [←h1];exact h.eO _
   obtain ⟨u,hu⟩:=h.back h2
   exact g.all R M L h (by rw [←hu];exact Hw m.clo hc u)
theorem Rgs.new {f:Nat→Nat} {i t j':Nat} {ks R:List Nat} {Rs:List (List Nat)} (m:Met f i ks) (w:K4 f i ks t) (g:Rgs f ks Rs) (hc:it f i t∈path f i t) (hR:lg f (it f i t) R j') (hcl:∀ n∈ks++path f i t,f n∈ks++path f i t) :
  Rgs f (ks++path f i t) (Rs++[R]):=by
 obtain ⟨j,hj,e⟩:=bw.mp hc
 obtain ⟨M,L,u,h,hu⟩:=hR.ring
 have cyc:it f (it f i t) (t - j)=it f i t:=by
  conv=>lhs;rw [←e]
  rw [←fH,show j+(t - j)=t by omega]
 have abP:it f i t∈R:=by
  have h1:it f (it f i t) (u+(u*(t - j)+(t - j) - u))=it f i t:=by
   have hge:u≤u*(t - j)+(t - j):=by
    have:=Nat.le_mul_of_pos_right u (show 0<t - j by omega)
    omega
   rw [show u+(u*(t - j)+(t - j) - u)=(u+1)*(t - j) by rw [Nat.succ_mul];omega,Vh (by omega) cyc,Nat.mul_mod_left]
   rfl
  rw [fH,hu] at h1
  rw [←h1];exact h.eO _
 have ac9:it f i t ∉ ks:=fun z=>by
  exact (List.nodup_append.mp w.nd).2.2 _ z _ hc rfl
 have Mk:M∈ks++path f i t:=by rw [←hu];exact Hw hcl (List.mem_append_right _ hc) u
 refine ⟨fun R' hR'=>?_,?_,fun R' M' L' h' hM'=>?_⟩
 ·rcases List.mem_append.mp hR' with z | z
  ·obtain ⟨M',L',h',hM'⟩:=g.ring R' z
   exact ⟨M',L',h',List.mem_append_left _ hM'⟩
  ·rw [List.mem_singleton.mp z]
   exact ⟨M,L,h,Mk⟩
 ·rw [List.map_append]
  refine List.nodup_append.mpr ⟨g.nd,by simp,fun a ha b hb e2=>?_⟩
  obtain ⟨R',hR',rfl⟩:=List.mem_map.mp ha
  obtain ⟨M',L',h',hM'⟩:=g.ring R' hR'
  have hb':b=R.headD 0:=by simpa using hb
  rw [hb',h.headD,h'.headD] at e2
  subst e2
  obtain ⟨q,_,hq⟩:=h.Hj abP
  exact ac9 (by rw [←hq];exact Hw m.clo hM' q)
 ·rcases List.mem_append.mp hM' with z | z
  ·exact List.mem_append_left _ (g.all R' M' L' h' z)
  ·obtain ⟨j2,hj2,e2⟩:=bw.mp z
   have h1:it f M' (t - j2)=it f i t:=by rw [←e2,←fH,show j2+(t - j2)=t by omega]
   have h2:it f i t∈R':=by rw [←h1];exact h'.eO _
   have:=(h'.uniq h (n:=it f i t) (i:=0) (i':=0) h2 abP).1
   rw [this]
   exact List.mem_append_right _ (by simp)
theorem JN {ws:List Nat} (hb:2≤ws.length) (hw:∀ x∈ws,x≤50) {n:Nat} (h:n≤450):fall ws n≤450:=by
 have h1:=wK hw n
 have h2:(fl ws.length n).length≤9:=by
  by_cases e:n=0
  ·subst e;rw [rH (by omega)];decide
  ·apply Nat.le_of_not_lt
   intro z
   have h3:=Vg hb n (by omega)
   have h4:2 ^ 9≤ws.length ^ ((fl ws.length n).length - 1):=Nat.le_trans (Nat.pow_le_pow_left hb 9) (Nat.pow_le_pow_right (by omega) (by omega))
   have:(2:Nat) ^ 9=512:=rfl
   omega
 omega
theorem LQ {ws:List Nat} (hb:2≤ws.length) (hw:∀ x∈ws,x≤50) {n:Nat} (h:n≤450):∀ j,it (fall ws) n j≤450
 | 0=>h
 | j+1=>JN hb hw (LQ hb hw h j)
end My
namespace My
open PySem L2
def yW (f:Nat→Nat) (n M:Nat):Prop:=∃ R L t,aX f R M L∧it f n t=M
theorem yW.uniq {f:Nat→Nat} {n M M':Nat} (h:yW f n M) (h':yW f n M'):M=M':=by
 obtain ⟨R,L,t,h1,h2⟩:=h
 obtain ⟨R',L',t',h1',h2'⟩:=h'
 exact (h1.uniq h1' (by rw [h2];exact h1.eO 0) (by rw [h2'];exact h1'.eO 0)).2
theorem yW.up {f:Nat→Nat} {n M:Nat} (h:yW f (f n) M):yW f n M:=by
 obtain ⟨R,L,t,h1,h2⟩:=h
 exact ⟨R,L,t+1,h1,by rw [wM];exact h2⟩
theorem aX.home {f:Nat→Nat} {R:List Nat} {M L:Nat} (h:aX f R M L) {x:Nat} (hx:x∈R):yW f x M:=by
 obtain ⟨t,e⟩:=h.back hx
 exact ⟨R,L,t,h,e⟩
theorem lg.home {f:Nat→Nat} {n j:Nat} {R:List Nat} (h:lg f n R j):∃ M L,aX f R M L∧yW f n M:=by
 obtain ⟨M,L,i,h1,h2⟩:=h.ring
 exact ⟨M,L,h1,R,L,i,h1,h2⟩
theorem VB:∀ (l:List Nat),l≠[]→∃ m∈l,∀ a∈l,m≤a
 | [],h=>absurd rfl h
 | [x],_=>⟨x,List.mem_cons_self,fun a ha=>by rw [List.mem_singleton.mp ha];exact Nat.le_refl _⟩
 | x::y::r,_=>by
  obtain ⟨m,h1,h2⟩:=VB (y::r) (by simp)
  by_cases e:x≤m
  ·refine ⟨x,List.mem_cons_self,fun a ha=>?_⟩
   rcases List.mem_cons.mp ha with z | z
   ·rw [z];exact Nat.le_refl _
   ·exact Nat.le_trans e (h2 a z)
  ·refine ⟨m,List.mem_cons_of_mem _ h1,fun a ha=>?_⟩
   rcases List.mem_cons.mp ha with z | z
   ·rw [z];omega
   ·exact h2 a z
theorem VD {f:Nat→Nat} {n B:Nat} (hB:∀ i,it f n (i+1)≤B):∃ k,sU f n k:=by
 have key:∀ k,(path f n k).Nodup∨∃ k',sU f n k':=fun k=>by
  induction k with
  | zero=>exact .inl List.nodup_nil
  | succ k ih =>
   rcases ih with h | h
   ·by_cases e:it f n k∈path f n k
    ·exact .inr ⟨k,h,e⟩
    ·exact .inl (wO h e)
   ·exact .inr h
 rcases key (B+3) with h | h
 ·have:=vH hB h;omega
 ·exact h
theorem RG {f:Nat→Nat} {n B:Nat} (hB:∀ i,it f n (i+1)≤B):∃ R j,lg f n R j:=by
 obtain ⟨k,hk⟩:=VD hB
 obtain ⟨j,hj,e⟩:=bw.mp hk.me
 have ne:(path f n k).drop j≠[]:=fun z=>by
  have:=congrArg List.length z
  rw [List.length_drop,bf] at this
  simp at this;omega
 obtain ⟨m,h1,h2⟩:=VB _ ne
 obtain ⟨s,h3,h4⟩:=wQ h1
 exact ⟨_,j,k,s,hk,hj,e,⟨m,h3,h2,h4⟩,rfl⟩
theorem X5 {ws:List Nat} (hb:2≤ws.length) (hw:∀ x∈ws,x≤50) (n:Nat):∃ M,yW (fall ws) n M:=by
 induction n using Nat.strongRecOn with
 | _ n ih =>
  by_cases h:n≤450
  ·obtain ⟨R,j,hR⟩:=RG (f:=fall ws) (n:=n) (B:=450) (fun i=>LQ hb hw h (i+1))
   obtain ⟨M,L,_,h2⟩:=hR.home
   exact ⟨M,h2⟩
  ·obtain ⟨M,hM⟩:=ih (fall ws n) (eN hb hw (by omega))
   exact ⟨M,hM.up⟩
def hm (f:Nat→Nat) (n:Nat):Nat:=open Classical in if h:∃ M,yW f n M then Classical.choose h else 0
theorem JQ {f:Nat→Nat} {n M:Nat} (h:yW f n M):hm f n=M:=by
 have hx:∃ M,yW f n M:=⟨M,h⟩
 unfold hm
 rw [dif_pos hx]
 exact (Classical.choose_spec hx).uniq h
structure Bk (ws:List Nat):Prop where
 two:2≤ws.length
 top:ws.length≤16
 le:∀ x∈ws,x≤50
theorem Bk.home {ws:List Nat} (b:Bk ws) (n:Nat):yW (fall ws) n (My.hm (fall ws) n):=by
 obtain ⟨M,h⟩:=X5 b.two b.le n
 rw [JQ h];exact h
theorem Bk.wW {ws:List Nat} (b:Bk ws) (n:Nat):My.hm (fall ws) (fall ws n)=My.hm (fall ws) n:=(JQ (b.home (fall ws n)).up).symm
theorem Bk.VF {ws:List Nat} (b:Bk ws) (n:Nat):∀ t,My.hm (fall ws) (it (fall ws) n t)=My.hm (fall ws) n
 | 0=>rfl
 | t+1=>by rw [it,b.wW,b.VF n t]
theorem Bk.abQ {ws:List Nat} (b:Bk ws) (n:Nat):My.hm (fall ws) (My.hm (fall ws) n)=My.hm (fall ws) n:=by
 obtain ⟨R,L,t,h1,h2⟩:=b.home n
 exact JQ (h1.home (h1.eO 0))
theorem Bk.ring {ws:List Nat} (b:Bk ws) (n:Nat):∃ R L,aX (fall ws) R (My.hm (fall ws) n) L:=by
 obtain ⟨R,L,t,h1,h2⟩:=b.home n
 exact ⟨R,L,h1⟩
theorem aX.abR {ws:List Nat} (b:Bk ws) {R:List Nat} {M L:Nat} (h:aX (fall ws) R M L):M≤450:=by
 have h1:M≤fall ws M:=h.low _ (h.eO 1)
 apply Nat.le_of_not_lt
 intro z
 have:=eN b.two b.le (n:=M) (by omega)
 omega
theorem Bk.abS {ws:List Nat} (b:Bk ws) (n:Nat):My.hm (fall ws) n≤450:=by
 obtain ⟨R,L,h⟩:=b.ring n
 exact h.abR b
theorem lg.hmR {ws:List Nat} {n j:Nat} {R:List Nat} (h:lg (fall ws) n R j):∃ L,aX (fall ws) R (My.hm (fall ws) n) L:=by
 obtain ⟨M,L,h1,h2⟩:=h.home
 rw [JQ h2];exact ⟨L,h1⟩
def aW (ws:List Nat):List Nat:=(List.range 451).filter fun M=>decide (hm (fall ws) M=M)
theorem sY (ws:List Nat):(aW ws).Pairwise (· < ·):=List.pairwise_lt_range.filter _
theorem qg (ws:List Nat):(aW ws).Nodup:=(sY ws).imp fun h=>Nat.ne_of_lt h
theorem Bk.lA {ws:List Nat} (b:Bk ws) (M:Nat):M∈aW ws ↔ hm (fall ws) M=M:=by
 unfold aW
 rw [List.mem_filter,List.mem_range,decide_eq_true_eq]
 refine ⟨fun h=>h.2,fun h=>⟨?_,h⟩⟩
 have:=b.abS M
 omega
theorem Bk.sZ {ws:List Nat} (b:Bk ws) (n:Nat):hm (fall ws) n∈aW ws:=(b.lA _).mpr (b.abQ n)
theorem aX.lA {ws:List Nat} (b:Bk ws) {R:List Nat} {M L:Nat} (h:aX (fall ws) R M L):M∈aW ws:=(b.lA M).mpr (JQ (h.home (h.eO 0)))
theorem Bk.few {ws:List Nat} (b:Bk ws):(aW ws).length<128:=yV b.two b.top b.le (qg ws) (fun M hM=>by
 obtain ⟨R,L,h⟩:=b.ring M
 rw [(b.lA M).mp hM] at h
 exact ⟨R,L,h⟩)
theorem Hx {α:Type} {lt:α→α→Prop} (irr:∀ a,¬ lt a a) (asy:∀ a b,lt a b→¬ lt b a):∀ {l m:List α},l.Pairwise lt→m.Pairwise lt→(∀ x,x∈l ↔ x∈m)→l=m
 | [],[],_,_,_=>rfl
 | [],y::m,_,_,h=>absurd ((h y).mpr List.mem_cons_self) (by simp)
 | x::l,[],_,_,h=>absurd ((h x).mp List.mem_cons_self) (by simp)
 | x::l,y::m,h1,h2,h=>by
  rw [List.pairwise_cons] at h1 h2
  have e:x=y:=by
   rcases List.mem_cons.mp ((h x).mp List.mem_cons_self) with z | z
   ·exact z
   ·rcases List.mem_cons.mp ((h y).mpr List.mem_cons_self) with z2 | z2
    ·exact z2.symm
    ·exact absurd (h2.1 x z) (asy _ _ (h1.1 y z2))
  subst e
  congr 1
  refine Hx irr asy h1.2 h2.2 fun z=>⟨fun hz=>?_,fun hz=>?_⟩
  ·exact (List.mem_cons.mp ((h z).mp (List.mem_cons_of_mem _ hz))).resolve_left fun e=>irr x (by have:=h1.1 z hz;rw [e] at this;exact this)
  ·exact (List.mem_cons.mp ((h z).mpr (List.mem_cons_of_mem _ hz))).resolve_left fun e=>irr x (by have:=h2.1 z hz;rw [e] at this;exact this)
theorem lB {ws:List Nat} (b:Bk ws) {out:List (Addr×List Int)} (ho:∀ p∈out,∃ R M L,aX (fall ws) R M L∧p.2=R.map (fun d:Nat=>(d:Int))) (K5:out.Pairwise (fun p q=>p.2.headD 0<q.2.headD 0))
  (hall:∀ R M L,aX (fall ws) R M L→∃ p∈out,p.2=R.map (fun d:Nat=>(d:Int))):out.map (fun p=>p.2.headD 0)=(aW ws).map (fun d:Nat=>(d:Int)):=by
 have hd:∀ {R:List Nat} {M L:Nat},aX (fall ws) R M L→(R.map (fun d:Nat=>(d:Int))).headD 0=(M:Int):=fun {R M L} h=>by
  have:=h.head
  cases R with
  | nil=>cases this
  | cons x r=>have e:x=M:=Option.some.inj this;rw [e];rfl
 refine Hx (lt:=fun a b:Int=>a<b) (fun a=>Int.lt_irrefl a) (fun a b h z=>by omega) (List.pairwise_map.mpr K5) (List.pairwise_map.mpr ((sY ws).imp fun {x y} h=>by show (x:Int)<y;omega)) fun z=>⟨fun hz=>?_,fun hz=>?_⟩
 ·obtain ⟨p,hp,rfl⟩:=List.mem_map.mp hz
  obtain ⟨R,M,L,h,e⟩:=ho p hp
  rw [e,hd h]
  exact List.mem_map_of_mem (h.lA b)
 ·obtain ⟨M,hM,rfl⟩:=List.mem_map.mp hz
  obtain ⟨R,L,h⟩:=b.ring M
  rw [(b.lA M).mp hM] at h
  obtain ⟨p,hp,e⟩:=hall R M L h
  exact List.mem_map.mpr ⟨p,hp,by rw [e,hd h]⟩
end My
namespace My
open PySem L2
theorem LR {ws:List Nat} (b:Bk ws) {n T:Nat} (h:n≤T+450):∀ j,it (fall ws) n j≤T+450
 | 0=>h
 | j+1=>by
  have ih:=LR b h j
  show fall ws (it (fall ws) n j)≤_
  by_cases e:it (fall ws) n j≤450
  ·have:=JN b.two b.le e;omega
  ·have:=eN b.two b.le (n:=it (fall ws) n j) (by omega);omega
structure Qi (ws:List Nat) (i T:Nat) (ps:List (Nat×V)):Prop where
 nd:(ps.map (·.1)).Nodup
 val:∀ n v,ps.lookup n=some v→v=vI (hm (fall ws) n)
 all:∀ n,n<i→n∈ps.map (·.1)
 le:∀ n∈ps.map (·.1),n≤T+450
theorem Qi.nil (ws:List Nat) (T:Nat):Qi ws 0 T []:=⟨List.nodup_nil,fun n v e=>by simp at e,fun n h=>by omega,fun n h=>by simp at h⟩
theorem Qi.at {ws:List Nat} {i T:Nat} {ps:List (Nat×V)} (h:Qi ws i T ps) {n:Nat} (hn:n∈ps.map (·.1)):ps.lookup n=some (vI (hm (fall ws) n)):=by
 have hs:(ps.lookup n).isSome=true:=by rw [lookup_isSome];exact decide_eq_true hn
 obtain ⟨v,hv⟩:=Option.isSome_iff_exists.mp hs
 rw [hv,h.val n v hv]
theorem Qi.get {ws:List Nat} {i T:Nat} {ps:List (Nat×V)} (h:Qi ws i T ps) {n:Nat} (hn:n<i):ps.lookup n=some (vI (hm (fall ws) n)):=h.at (h.all n hn)
theorem Qi.short {ws:List Nat} {i T t:Nat} {ps:List (Nat×V)} (b:Bk ws) (h:Qi ws i T ps) (hi:i≤T) (w:K4 (fall ws) i (ps.map (·.1)) t):ps.length+t≤T+451:=by
 have:=yP (T+451) _ w.nd (fun x hx=>by
  rcases List.mem_append.mp hx with z | z
  ·have:=h.le x z;omega
  ·obtain ⟨j,_,rfl⟩:=bw.mp z
   have:=LR b (show i≤T+450 by omega) j;omega)
 rw [List.length_append,List.length_map,bf] at this;exact this
theorem wX {v u:V}:∀ {l:List Nat} {n:Nat},(l.map fun x=>(x,v)).lookup n=some u→u=v∧n∈l
 | [],n,e=>by simp at e
 | x::r,n,e=>by
  rw [List.map_cons,List.lookup_cons] at e
  split at e
  ·rename_i c
   exact ⟨(Option.some.inj e).symm,by rw [show n=x by simpa using c];exact List.mem_cons_self⟩
  ·obtain ⟨h1,h2⟩:=wX e
   exact ⟨h1,List.mem_cons_of_mem _ h2⟩
theorem qj (ps:List (Nat×V)) (l:List Nat) (v:V):(ps++l.map fun x=>(x,v)).map (·.1)=ps.map (·.1)++l:=by
 rw [List.map_append,List.map_map]
 congr 1
 exact List.map_id _
theorem Qi.next {ws:List Nat} {i T t:Nat} {ps:List (Nat×V)} (b:Bk ws) (h:Qi ws i T ps) (hi:i≤T) (w:K4 (fall ws) i (ps.map (·.1)) t) (hc:it (fall ws) i t∈ps.map (·.1)++path (fall ws) i t) :
  Qi ws (i+1) T (ps++(path (fall ws) i t).map fun x=>(x,vI (hm (fall ws) i))) where
 nd:=by rw [qj];exact w.nd
 val:=fun n v e=>by
  rw [List.lookup_append] at e
  cases e2:ps.lookup n with
  | some u =>
   rw [e2] at e
   have:u=v:=Option.some.inj e
   rw [←this];exact h.val n u e2
  | none =>
   rw [e2] at e
   obtain ⟨h1,h2⟩:=wX (show _=some v from e)
   obtain ⟨j,_,rfl⟩:=bw.mp h2
   rw [h1,b.VF]
 all:=fun n hn=>by
  rw [qj]
  by_cases e:n=i
  ·subst e
   by_cases e2:t=0
   ·subst e2;exact hc
   ·exact List.mem_append_right _ (bw.mpr ⟨0,by omega,rfl⟩)
  ·exact List.mem_append_left _ (h.all n (by omega))
 le:=fun n hn=>by
  rw [qj] at hn
  rcases List.mem_append.mp hn with z | z
  ·exact h.le n z
  ·obtain ⟨j,_,rfl⟩:=bw.mp z
   exact LR b (by omega) j
theorem VG {ws:List Nat} (b:Bk ws) {i j t M:Nat} (nd:(path (fall ws) i t).Nodup) (hj:j<t) (e:it (fall ws) i j=it (fall ws) i t) (hM:M∈(path (fall ws) i t).drop j) (hmin:∀ x∈(path (fall ws) i t).drop j,M≤x):hm (fall ws) i=M:=by
 obtain ⟨s,h3,h4⟩:=wQ hM
 have hR:lg (fall ws) i (Xz ((path (fall ws) i t).drop j) s) j:=⟨t,s,⟨nd,bw.mpr ⟨j,hj,e⟩⟩,hj,e,⟨M,h3,hmin,h4⟩,rfl⟩
 obtain ⟨L,h⟩:=hR.hmR
 refine Nat.le_antisymm (h.low M ((Cg _ _).mem_iff.mpr hM)) (hmin _ ((Cg _ _).mem_iff.mp (h.eO 0)))
end My
namespace My
open PySem L2
theorem Ma (us:List Nat) (s:Nat):lq us 0 1 s=us.count s:=by
 unfold lq
 induction us with
 | nil=>rfl
 | cons x r ih =>
  rw [List.map_cons,List.sum_cons,ih,List.count_cons,Nat.zero_add]
  by_cases e:s=x
  ·subst e;rw [if_pos rfl,beq_self_eq_true,if_pos rfl];omega
  ·rw [if_neg e,show (x == s)=false by simpa using fun z:x=s=>e z.symm];simp
theorem yX (ws:List Nat) (lo p q s:Nat):cin ws lo (p+q) s=cin ws lo p s+cin ws (lo+p) q s:=by
 unfold cin
 rw [Gr]
 congr 1
 exact gK fun i _=>by rw [Nat.add_assoc]
theorem Cq (us:List Nat) (G:Nat→Nat):∀ d,d≤us.length→tot d (fun i=>G (us.getD i 0))=((us.take d).map G).sum
 | 0,_=>rfl
 | d+1,h=>by
  have hx:us[d]? = some (us[d]'(by omega)):=List.getElem?_eq_getElem (by omega)
  rw [dI,Cq us G d (by omega),List.take_add_one,hx,List.map_append,List.sum_append,List.getD_eq_getElem?_getD,hx]
  simp
theorem VH {ws:List Nat} (hb:2≤ws.length) {x d:Nat} (hx:1≤x) (hd:d≤ws.length) (s:Nat):cin ws (x*ws.length) d s=lq (ws.take d) (fall ws x) 1 s:=by
 unfold cin lq
 rw [←Cq ws (fun w=>if s=fall ws x+w then 1 else 0) d hd]
 refine gK fun i hi=>?_
 rw [o9 hb hx (by omega)]
 show _=if s=fall ws x+wt ws i then 1 else 0
 by_cases e:fall ws x+wt ws i=s
 ·rw [if_pos e,if_pos e.symm]
 ·rw [if_neg e,if_neg fun z=>e z.symm]
theorem VJ {ws:List Nat} (hb:2≤ws.length) {d:Nat} (hd:d≤ws.length) (s:Nat):cin ws 1 (d - 1) s=lq (ws.tail.take (d - 1)) 0 1 s:=by
 unfold cin lq
 rw [←Cq ws.tail (fun w=>if s=0+w then 1 else 0) (d - 1) (by rw [List.length_tail];omega)]
 refine gK fun i hi=>?_
 rw [mQ (by omega)]
 have e1:wt ws (1+i)=ws.tail.getD i 0:=by
  unfold wt
  cases ws with
  | nil=>simp at hb
  | cons x r=>rw [Nat.add_comm 1 i];rfl
 rw [e1,Nat.zero_add]
 by_cases e:ws.tail.getD i 0=s
 ·rw [if_pos e,if_pos e.symm]
 ·rw [if_neg e,if_neg fun z=>e z.symm]
theorem VL {ws:List Nat} (hb:2≤ws.length) {N d:Nat} (hN:1≤N) (hd:d≤ws.length) (s:Nat):cin ws 1 (N*ws.length+d - 1) s=sh (cin ws 1 (N - 1)) ws s+lq ws.tail 0 1 s+lq (ws.take d) (fall ws N) 1 s:=by
 have e1:N*ws.length=(N - 1)*ws.length+ws.length:=by
  have:N=N - 1+1:=by omega
  conv=>lhs;rw [this]
  rw [Nat.add_mul,Nat.one_mul]
 rw [show N*ws.length+d - 1=(ws.length - 1)+((N - 1)*ws.length+d) by omega,yX,yX,Vs hb,←Ma,show 1+(ws.length - 1)=ws.length by omega]
 have h2:=Qd hb (lo:=1) (Nat.le_refl _) s (N - 1)
 rw [Nat.one_mul] at h2
 rw [h2,show ws.length+(N - 1)*ws.length=N*ws.length by omega,VH hb hN hd]
 omega
theorem VN {ws:List Nat} {lo m s:Nat} (h:∀ i,i<m→fall ws (lo+i)≠s):cin ws lo m s=0:=by
 unfold cin
 rw [gK (G:=fun _=>0) (fun i hi=>if_neg (h i hi)),Cm]
theorem Qj {ws:List Nat} (b:Bk ws) {lo m n s:Nat} (hn:1≤n) (h:lo+m≤ws.length ^ n) (hs:50*n<s):cin ws lo m s=0:=VN fun i hi z=>by
 have:=mR b.two b.le (n:=n) (x:=lo+i) hn (by omega)
 omega
theorem Qk {ws:List Nat} (hb:2≤ws.length) (lim s:Nat):cin ws 0 lim s=(if 0<lim then (if s=wt ws 0 then 1 else 0) else 0)+cin ws 1 (lim - 1) s:=by
 by_cases e:0<lim
 ·have:lim=1+(lim - 1):=by omega
  conv=>lhs;rw [this]
  rw [yX,if_pos e]
  congr 1
  show cin ws 0 (0+1) s=_
  rw [Cp,wV,Nat.zero_add,mQ (by omega)]
  by_cases e2:wt ws 0=s
  ·rw [if_pos e2,if_pos e2.symm]
  ·rw [if_neg e2,if_neg fun z=>e2 z.symm]
 ·rw [if_neg e,show lim=0 by omega];rfl
def cnt (ws:List Nat) (lim M:Nat):Nat:=tot lim (fun n=>if hm (fall ws) n=M then 1 else 0)
theorem VP (ws:List Nat) (M:Nat):cnt ws 0 M=0:=rfl
theorem gU (ws:List Nat) (lim M:Nat):cnt ws (lim+1) M=cnt ws lim M+if hm (fall ws) lim=M then 1 else 0:=dI _ _
theorem Cr (G:Nat→Nat) (x:Nat):∀ n,tot n (fun s=>if x=s then G s else 0)=if x<n then G x else 0
 | 0=>rfl
 | n+1=>by
  rw [dI,Cr G x n]
  by_cases e:x=n
  ·subst e;rw [if_neg (by omega),if_pos rfl,if_pos (by omega)];omega
  ·rw [if_neg e]
   by_cases e2:x<n
   ·rw [if_pos e2,if_pos (by omega)];rfl
   ·rw [if_neg e2,if_neg (by omega)]
def Zg (ws:List Nat) (lim i M:Nat):Nat:=tot i (fun s=>if hm (fall ws) s=M then cin ws 0 lim s else 0)
theorem JR (ws:List Nat) (lim i M:Nat):Zg ws lim (i+1) M=Zg ws lim i M+if hm (fall ws) i=M then cin ws 0 lim i else 0:=dI _ _
theorem Ql {ws:List Nat} (b:Bk ws) (L M:Nat):∀ lim,(∀ n,n<lim→fall ws n<L)→Zg ws lim L M=cnt ws lim M
 | 0,_=>by
  unfold Zg
  rw [gK (G:=fun _=>0) (fun s _=>by rw [wV];split <;> rfl),Cm];rfl
 | lim+1,h=>by
  rw [gU,←Ql b L M lim (fun n hn=>h n (by omega))]
  unfold Zg
  have e:∀ s,(if hm (fall ws) s=M then cin ws 0 (lim+1) s else 0)=(if hm (fall ws) s=M then cin ws 0 lim s else 0)+if fall ws lim=s then (if hm (fall ws) s=M then 1 else 0) else 0:=fun s=>by
   rw [Cp,Nat.zero_add]
   by_cases e1:hm (fall ws) s=M
   ·rw [if_pos e1,if_pos e1,if_pos e1]
   ·rw [if_neg e1,if_neg e1,if_neg e1];split <;> rfl
  rw [gK (fun s _=>e s),XJ,Cr,if_pos (h lim (by omega)),b.wW]
def ix (ws:List Nat) (M:Nat):Nat:=(aW ws).idxOf M
theorem ql {ws:List Nat} {M:Nat} (h:M∈aW ws):(aW ws)[ix ws M]? = some M:=by
 unfold ix
 rw [List.getElem?_eq_getElem (List.idxOf_lt_length_of_mem h),List.getElem_idxOf]
theorem Qm {ws:List Nat} {M:Nat} (h:M∈aW ws):ix ws M<(aW ws).length:=List.idxOf_lt_length_of_mem h
theorem Zh {ws:List Nat} {j M:Nat} (h:(aW ws)[j]? = some M):ix ws M=j:=fB (qg ws) (ql (List.mem_of_getElem? h)) h
theorem Cu {l:List Nat} (nd:l.Nodup) {j M:Nat} (h:l[j]? = some M) (F:Nat→V) (v:V):(l.map F).set j v=l.map (fun x=>if x=M then v else F x):=by
 refine List.ext_getElem? fun i=>?_
 rw [List.getElem?_set,List.length_map,List.getElem?_map,List.getElem?_map]
 have hj:j<l.length:=(List.getElem?_eq_some_iff.mp h).1
 by_cases e:j=i
 ·subst e
  rw [if_pos rfl,if_pos hj,h];simp
 ·rw [if_neg e]
  cases q:l[i]? with
  | none=>rfl
  | some x =>
   have:x≠M:=fun z=>e (fB nd h (by rw [q,z]))
   simp [this]
def lps (ws:List Nat) (j:Nat):List (Nat×V):=(List.range j).map fun i=>((aW ws).getD i 0,vI i)
theorem X6 (ws:List Nat) (j:Nat):(lps ws j).length=j:=by unfold lps;rw [List.length_map,List.length_range]
theorem JT (ws:List Nat) (j:Nat):lps ws (j+1)=lps ws j++[((aW ws).getD j 0,vI j)]:=by unfold lps;rw [List.range_succ,List.map_append];rfl
theorem VR {ws:List Nat} {j:Nat} (h:j≤(aW ws).length):(lps ws j).map (·.1)=(aW ws).take j:=by
 unfold lps
 rw [List.map_map]
 refine List.ext_getElem? fun i=>?_
 rw [List.getElem?_map]
 by_cases e:i<j
 ·rw [List.getElem?_range e,List.getElem?_take_of_lt e,List.getElem?_eq_getElem (by omega)]
  show some ((aW ws).getD i 0)=_
  rw [List.getD_eq_getElem?_getD,List.getElem?_eq_getElem (by omega)];rfl
 ·rw [List.getElem?_eq_none (by rw [List.length_range];omega),List.getElem?_eq_none (by rw [List.length_take];omega)];rfl
theorem Qn {ws:List Nat} {j M:Nat} (h:(aW ws)[j]? = some M):(lps ws j).lookup M=none:=by
 have hj:j<(aW ws).length:=(List.getElem?_eq_some_iff.mp h).1
 refine c7 ?_
 rw [VR (by omega)]
 intro z
 obtain ⟨i,hi,e⟩:=List.mem_take_iff_getElem.mp z
 have:=fB (qg ws) h (by rw [List.getElem?_eq_getElem (show i<(aW ws).length by omega),e])
 omega
theorem Qo {ws:List Nat}:∀ {j:Nat} {M:Nat},j≤(aW ws).length→ix ws M<j→M∈aW ws→(lps ws j).lookup M=some (vI (ix ws M))
 | 0,M,_,h,_=>by omega
 | j+1,M,hj,h,hm=>by
  rw [JT]
  by_cases e:ix ws M=j
  ·have hM:=ql hm
   rw [e] at hM
   rw [lookup_append_none (Qn hM),List.lookup_cons,List.getD_eq_getElem?_getD,hM,e]
   simp
  ·exact gq (Qo (by omega) (by omega) hm)
theorem Qp {b:Nat} (hb:2≤b) {rs:List Nat} {d0:Nat} (h0:rs[0]? = some d0) (hd:1≤d0):∀ k,1≤k→k≤rs.length→1≤num b (rs.take k)
 | 0,h,_=>by omega
 | k+1,_,h=>by
  have hx:rs[k]? = some (rs[k]'(by omega)):=List.getElem?_eq_getElem (by omega)
  rw [Cd hx]
  by_cases e:k=0
  ·subst e
   rw [h0] at hx
   have:=Option.some.inj hx
   omega
  ·have ih:=Qp hb h0 hd k (by omega) (by omega)
   have:1*1≤num b (rs.take k)*b:=Nat.mul_le_mul ih (by omega)
   omega
theorem Qq {b:Nat} (hb:2≤b) {rs:List Nat} (h:∀ d∈rs,d<b) (k:Nat) (hk:k≤rs.length):num b (rs.take k)<b ^ k:=by
 have:=Vd hb (rs.take k).reverse (fun d hd=>h d (List.mem_of_mem_take (List.mem_reverse.mp hd)))
 rw [List.length_reverse,List.length_take,Nat.min_eq_left hk] at this
 exact this
end My
namespace My
open PySem L2
theorem X7 {xs:List V} {d:Nat} (h1:1≤xs.length) (h:d≤xs.length):oW xs (some (1:Int)) (some (d:Int))=xs.tail.take (d - 1):=by
 unfold oW
 rw [show (1:Int)=((1:Nat):Int) from rfl,HT.mJ,HT.mJ,Nat.min_eq_left h1,Nat.min_eq_left h,List.drop_one]
end My
namespace My
open PySem L2
theorem Qs {xs:List V} (h1:1≤xs.length):oW xs (some (1:Int)) none=xs.tail:=by
 rw [show (1:Int)=((1:Nat):Int) from rfl,sV h1,List.drop_one]
theorem Gx {n:Nat} {p:Prop} (h:1≤n):¬ (HT.iM n 0 (some (1:Int))=0∧p):=by
 rw [show (1:Int)=((1:Nat):Int) from rfl,HT.mJ];omega
end My
namespace My
open PySem L2
theorem yZ:∀ l:List Nat,(List.replicate l.length [V.int 0]).flatten=l.map fun _=>vI 0
 | []=>rfl
 | x::r=>by rw [List.length_cons,List.replicate_succ,List.flatten_cons,yZ r,List.map_cons];rfl
end My
namespace My
open PySem L2
def Ep (ws:List Nat) (n:Nat):List Int:=(List.range n).map fun i=>((hm (fall ws) i:Nat):Int)
theorem aaA (ws:List Nat) (n:Nat):(Ep ws n).map V.int=(List.range n).map fun i=>vI (hm (fall ws) i):=by unfold Ep;rw [List.map_map];rfl
theorem V0 (ws:List Nat) (n:Nat):(Ep ws n).length=n:=by unfold Ep;rw [List.length_map,List.length_range]
theorem JV {ws:List Nat} (b:Bk ws) {n:Nat} {k:Int} (h:k∈Ep ws n):k∈(aW ws).map fun d:Nat=>(d:Int):=by
 unfold Ep at h
 obtain ⟨i,_,rfl⟩:=List.mem_map.mp h
 exact List.mem_map_of_mem (b.sZ i)
theorem V1 {ws:List Nat} (b:Bk ws) {n:Nat} {ms:List Int} (nd:ms.Nodup) (h:∀ k,k∈ms→k∈Ep ws n):ms.length<128:=by
 have:=LK ms ((aW ws).map fun d:Nat=>(d:Int)) nd (fun k hk=>JV b (h k hk))
 rw [List.length_map] at this
 have:=b.few
 omega
theorem V2 {ws:List Nat} (b:Bk ws) {n:Nat} (hn:∀ M∈aW ws,M<n) {out:List Int} (hs:out.Pairwise (· < ·)) (hm':∀ k,k∈out ↔ k∈Ep ws n):out=(aW ws).map fun d:Nat=>(d:Int):=by
 refine Hx (lt:=fun a b:Int=>a<b) (fun a=>Int.lt_irrefl a) (fun a b h z=>by omega) hs (List.pairwise_map.mpr ((sY ws).imp fun {x y} h=>by show (x:Int)<y;omega)) fun z=>⟨fun hz=>JV b ((hm' z).mp hz),fun hz=>?_⟩
 obtain ⟨M,hM,rfl⟩:=List.mem_map.mp hz
 refine (hm' _).mpr ?_
 unfold Ep
 refine List.mem_map.mpr ⟨M,List.mem_range.mpr (hn M hM),?_⟩
 rw [(b.lA M).mp hM]
theorem X8 {ws:List Nat} {M:Nat} (h:M∈aW ws):M<451:=by
 unfold aW at h
 exact List.mem_range.mp (List.mem_filter.mp h).1
theorem Qt (l:List Nat):(l.map fun d:Nat=>(d:Int)).map V.int=l.map vI:=by rw [List.map_map];rfl
end My
namespace My
open PySem L2
end My
namespace My
open PySem L2
end My
namespace My
open PySem L2
theorem Qu (x:Nat):∀ l:List Nat,inV (vI x) (l.map vI)=decide (x∈l)
 | []=>by simp [inV]
 | y::r=>by
  have ih:=Qu x r
  unfold inV at ih ⊢
  rw [List.map_cons,List.any_cons,ih]
  by_cases e:y=x
  ·subst e;simp [K3]
  ·have e1:K3 (vI y) (vI x)=false:=by simp [K3];omega
   have e2:x≠y:=fun z=>e z.symm
   rw [e1];simp [e2]
theorem Yb {K:PySem.W.Frag} {neg:Bool} {p:Addr} {H:Hp} {Q:VK} {l:List Nat} {x:Nat} (h:bA K H p (l.map vI)) (q:Q (.bl (if neg then !decide (x∈l) else decide (x∈l))) H):rIn K neg (vI x) (.ref p) H Q :=
 ⟨p,_,rfl,h,rfl,by simp [rG],by rw [Qu];exact q⟩
end My
namespace L2
open PySem PySem.Spec PyProof.Rows
theorem Zi {κ:Type}:∀ {kvs:List (κ×V)} {vs:List (κ×Value)},KV kvs vs→∀ {j:Nat} {kv:κ×V} {k:κ} {u:Value},kvs[j]? = some kv→vs[j]? = some (k,u)→RelV kv.2 u
 | _,_,.nil,j,kv,k,u,e,_=>by simp at e
 | _,_,.cons h r,j,kv,k,u,e1,e2=>by
  cases j with
  | zero =>
   rw [List.getElem?_cons_zero] at e1 e2
   cases e1;cases e2
   exact h.2
  | succ j =>
   rw [List.getElem?_cons_succ] at e1 e2
   exact Zi r e1 e2
def Yc (r d:Addr):HO:=.ext fun h=>h.IsValuesView r d
section
variable {X:Cx} {K:PySem.W.Frag}
def Qv:V→List V→Hp→VK→Prop:=fun x vs H Q=>∃ (d:Addr) (kvs:List (Key×V)),x=.ref d∧vs=[]∧H d=some (.dK kvs)∧∀ r,H r=none→Q (.ref r) (upd H r (Yc r d))
theorem RJ:YL X "dict.values" Qv:=by
 intro pins s σ H x vs v us Q I rx rv h
 obtain ⟨d,kvs,rfl,rfl,hH,q⟩:=h
 cases rx
 have hus:=rv.zero
 subst hus
 obtain ⟨hz,lo,ks,rel,dd⟩:=dk_of I.hok hH
 refine call_meetsIn F.slot_dict_values dd.typeIs F.entry_dict_values (F.args_dict_values_1 _) (meets_dict_values (mixKind X.prog X.w) d lo) ⟨⟨ks,dd⟩,?_⟩
 have g:(s.heap.push { cls:=.type "dict_values",data:=.fields #[.ref d] }).get? s.heap.objs.size=some { cls:=.type "dict_values",data:=.fields #[.ref d] }:=Heap.get?_push_size _ rfl
 refine ⟨.ref s.heap.objs.size,_,I.laid (t':=s.toks) (o:=Yc s.heap.objs.size d) (fun b o e=>Heap.get?_push_of_some _ e) (Nat.le_refl _) ⟨⟨_,g,rfl,rfl⟩,⟨_,g⟩,fun h1 h2 x k=>?_⟩,rfl,q _ (I.hok.fresh (Nat.le_refl _))⟩
 obtain ⟨o,ho,r⟩:=x
 exact ⟨o,k o ho,r⟩
def V3:List V→Hp→VK→Prop:=fun xs H Q=>∃ (r d:Addr) (kvs:List (Key×V)),xs=[.ref r]∧H r=some (Yc r d)∧H d=some (.dK kvs)∧∀ l,H l=none→Q (.ref l) (upd H l (.lst (kvs.map (·.2))))
theorem Mf (hc:X.calm=true):CallR X (.type "list") V3:=by
 intro pins s σ H xs us Q I r h
 obtain ⟨r',d,kvs,rfl,hr,ha,q⟩:=h
 obtain ⟨u,rfl,rx⟩:=vals1 r
 cases rx
 obtain ⟨hv,_,_⟩:=(show ObjOk X.prog X.w H s.heap r' (Yc r' d) from I.hok r' _ hr)
 obtain ⟨hz,lo,ks,rel,dd⟩:=dk_of I.hok ha
 obtain ⟨ep,hat⟩:=dd.dictAt
 have hlen:=rel.length
 refine PySem.W.kdl_call (PySem.W.kdl_values (knd:=mixKind X.prog X.w) (r:=r') (d:=d) (kvs:=ks) (ep:=ep)) (I.ok.hd hc) ⟨hv,hat⟩ (by omega) fun h' tk acc' c' hk hS hacc=>?_
 have hvs:Vals (kvs.map (·.2)) acc'.toList:=by
  refine Hv (by have h9:=hacc.1;simp only [List.length_map,Array.length_toList];omega) fun j x u e1 e2=>?_
  rw [Array.getElem?_toList] at e2
  obtain ⟨k,e3⟩:=hacc.2 j u e2
  rw [List.getElem?_map,Option.map_eq_some_iff] at e1
  obtain ⟨kv,e4,rfl⟩:=e1
  exact Zi rel e4 e3
 refine ⟨.ref s.heap.objs.size,_,I.laid (t':=tk) hk (Nat.le_refl _) (show ObjOk X.prog X.w _ h' _ (.lst _) from ⟨by rw [List.length_map];exact hz,acc'.toList,c',hvs,?_⟩),rfl,q _ (I.hok.fresh (Nat.le_refl _))⟩
 simpa using hS
theorem V4 {d:Addr} {H:Hp} {Q:VK} {kvs:List (Key×V)} (hd:H d=some (.dK kvs)) (q:∀ (l:Addr) H2,H l=none→H2 l=some (.lst (kvs.map (·.2)))→Same H H2→Q (.ref l) H2):Qv (.ref d) [] H (fun x H1=>V3 [x] H1 Q):=by
 refine ⟨d,kvs,rfl,rfl,hd,fun r hr=>⟨r,d,kvs,rfl,upd_same,by rw [upd_ne (ne_of_none hd hr)];exact hd,fun l hl=>?_⟩⟩
 have hlr:l≠r:=fun z=>by rw [z,upd_same] at hl;cases hl
 exact q l _ (by rw [upd_ne hlr] at hl;exact hl) upd_same ((Same.new hr).trans (Same.new hl))
theorem V5 {p:Addr} {H:Hp} {kvs:List (Key×V)} (h:H p=some (.dK kvs)):Xl K "dict" (.ref p) H:=.inr (.inr (.inl ⟨rfl,.inl ⟨kvs,h⟩⟩))
theorem Yd {o i value:Expr} {td ty tv:TE} {op:Operator} {rd:V→V→Hp→VK→Prop} {tpos pos:Pos} (hu:X.A.units+1<cLine) (ho:QE X o td) (hi:QE X i ty) (hv:QE X value tv) (hop:ZL X op rd)
  (ha:∀ ov iv new,augStore i ov iv new=(do holding [new,ov,iv] (setItem ov iv new);release [new,ov,iv] [];pure .next):=by intros;rfl):QS X (.AugAssign (.Subscript o i tpos) op value pos) (Oc td ty tv rd):=⟨Xo hu ho.h hi.h hv.h hop ha⟩
theorem Qw (td ty tv:TE) (rd:V→V→Hp→VK→Prop) (D:Ends) (σ:St) (H:Hp):Oc td ty tv rd D σ H=td σ H fun x H1=>ty σ H1 fun y H2=>FZ x fun a=>∃ v,DGet H2 a y (some v)∧tv σ H2 fun y2 H3=>rd v y2 H3 fun z H4=>∃ H5,DPut H4 a y z H5∧D.nx σ H5:=by
 unfold Oc FZ
 congr;funext x H1;congr;funext y H2
 exact propext ⟨fun ⟨a,v,e,h⟩=>⟨a,e,v,h⟩,fun ⟨a,e,v,h⟩=>⟨a,v,e,h⟩⟩
end
end L2
namespace My
open PySem L2
theorem qm {F:Nat→V} {M:Nat}:∀ {l:List Nat},M∈l→(l.map fun x=>(x,F x)).lookup M=some (F M)
 | [],h=>by cases h
 | x::r,h=>by
  rw [List.map_cons,List.lookup_cons]
  by_cases e:M=x
  ·subst e;rw [beq_self_eq_true]
  ·rw [show (M == x)=false by simpa using e]
   exact qm ((List.mem_cons.mp h).resolve_left e)
theorem keys_map (F:Nat→V) (l:List Nat):(l.map fun x=>(x,F x)).map (·.1)=l:=by rw [List.map_map];exact List.map_id _
theorem Qx {l:List Nat} {F:Nat→V} {M:Nat} (h:M∈l) (v:V):putK (jz (l.map fun x=>(x,F x))) (Sum.inl (M:Int)) v=jz (l.map fun x=>(x,if x=M then v else F x)):=by
 have hs:(valV (jz (l.map fun x=>(x,F x))) (Sum.inl (M:Int))).isSome=true:=by rw [cF,qm h];rfl
 unfold putK
 rw [valV_any,if_pos hs]
 unfold jz
 rw [List.map_map,List.map_map,List.map_map]
 refine List.map_congr_left fun x _=>?_
 show (if (Sum.inl (x:Int):Key)=Sum.inl (M:Int) then ((Sum.inl (x:Int):Key),v) else ((Sum.inl (x:Int):Key),F x))=(Sum.inl (x:Int),if x=M then v else F x)
 by_cases e:x=M
 ·rw [if_pos (by rw [e]),if_pos e]
 ·rw [if_neg (fun z=>e (by have:=Sum.inl.inj z;omega)),if_neg e]
theorem V6 (F:Nat→V) (l:List Nat):(jz (l.map fun x=>(x,F x))).map (·.2)=l.map F:=by unfold jz;rw [List.map_map,List.map_map];rfl
end My
namespace My
open PySem L2
theorem Hy {b n:Nat} (hb:2≤b) (h:n≤1048576):n≤b ^ 20:=by
 have h1:(2:Nat) ^ 20≤b ^ 20:=Nat.pow_le_pow_left hb 20
 have h3:(2:Nat) ^ 20=1048576:=rfl
 omega
end My
namespace My
open PySem L2
theorem Qy {ws:List Nat} {M:Nat} (hM:M∈aW ws):((aW ws).map (fun d:Nat=>(d:Int)))[ix ws M]? = some (M:Int):=by rw [List.getElem?_map,ql hM];rfl
theorem Gy {ws:List Nat} {M:Nat}:∀ m,m<ix ws M→((aW ws).map (fun d:Nat=>(d:Int)))[m]? ≠ some (M:Int):=fun m hm' z=>by
 rw [List.getElem?_map,Option.map_eq_some_iff] at z
 obtain ⟨y,hy,e⟩:=z
 have:=Zh (M:=M) (j:=m) (by rw [hy];congr 1;omega)
 omega
end My
namespace My
open PySem L2
theorem V7 {ws:List Nat} {i j:Nat} (h:i≤j) (M:Nat):cnt ws i M≤cnt ws j M:=by
 induction j with
 | zero =>
  have:i=0:=by omega
  subst this;exact Nat.le_refl _
 | succ j ih =>
  by_cases e:i=j+1
  ·subst e;exact Nat.le_refl _
  ·have:=ih (by omega)
   rw [gU];omega
end My
namespace My
open PySem L2
end My
namespace My
open PySem L2
end My
namespace My
open PySem L2
def wb (ws:List Nat) (M:Nat):Nat→Nat→Nat
 | 0=>fun x=>if hm (fall ws) x=M then 1 else 0
 | k+1=>fun x=>(ws.map fun w=>wb ws M k (x+w)).sum
theorem Qz {ws:List Nat} (b:Bk ws) (M k:Nat) (ih:∀ x,1≤x→cnt ws ((x+1)*ws.length ^ k) M=cnt ws (x*ws.length ^ k) M+wb ws M k (fall ws x)) {x:Nat} (hx:1≤x):∀ j,j≤ws.length→cnt ws ((x*ws.length+j)*ws.length ^ k) M=cnt ws (x*ws.length*ws.length ^ k) M+tot j (fun d=>wb ws M k (fall ws x+wt ws d))
 | 0,_=>by rw [Nat.add_zero,Vq,Nat.add_zero]
 | j+1,h=>by
  have h2:=b.two
  have hp:1≤x*ws.length:=by
   have:1*1≤x*ws.length:=Nat.mul_le_mul hx (by omega)
   omega
  rw [←Nat.add_assoc,ih _ (by omega),Qz b M k ih hx j (by omega),dI,o9 h2 hx (by omega)]
  omega
theorem Mg {ws:List Nat} (b:Bk ws) (M:Nat):∀ k x,1≤x→cnt ws ((x+1)*ws.length ^ k) M=cnt ws (x*ws.length ^ k) M+wb ws M k (fall ws x)
 | 0,x,_=>by
  rw [Nat.pow_zero,Nat.mul_one,Nat.mul_one,gU]
  show _=_+if hm (fall ws) (fall ws x)=M then 1 else 0
  rw [b.wW]
 | k+1,x,hx=>by
  have:=Qz b M k (Mg b M k) hx ws.length (Nat.le_refl _)
  rw [Lw ws (fun w=>wb ws M k (fall ws x+w))] at this
  have e1:(x+1)*ws.length ^ (k+1)=(x*ws.length+ws.length)*ws.length ^ k:=by rw [Nat.pow_succ,Nat.mul_comm (ws.length ^ k),←Nat.mul_assoc,Nat.add_mul,Nat.one_mul]
  have e2:x*ws.length ^ (k+1)=x*ws.length*ws.length ^ k:=by rw [Nat.pow_succ,Nat.mul_comm (ws.length ^ k),←Nat.mul_assoc]
  rw [e1,e2]
  exact this
theorem aaB {ws:List Nat} (b:Bk ws) (M k:Nat) {x j:Nat} (hx:1≤x) (hj:j<ws.length):cnt ws ((x*ws.length+(j+1))*ws.length ^ k) M=cnt ws ((x*ws.length+j)*ws.length ^ k) M+wb ws M k (fall ws x+wt ws j):=by
 have h2:=b.two
 have hp:1≤x*ws.length:=by
  have:1*1≤x*ws.length:=Nat.mul_le_mul hx (by omega)
  omega
 rw [←Nat.add_assoc,Mg b M k _ (by omega),o9 h2 hx hj]
theorem JW {ws:List Nat} (b:Bk ws) (M k:Nat) {j:Nat} (hj:j<ws.length) (h:1≤j∨k=0):cnt ws ((j+1)*ws.length ^ k) M=cnt ws (j*ws.length ^ k) M+wb ws M k (wt ws j):=by
 by_cases e:1≤j
 ·rw [Mg b M k j e,mQ hj]
 ·have:k=0:=by omega
  subst this
  rw [Nat.pow_zero,Nat.mul_one,Nat.mul_one,gU]
  show _=_+if hm (fall ws) (wt ws j)=M then 1 else 0
  rw [←mQ hj,b.wW]
theorem at_end {ws:List Nat} {M n r:Nat} (h1:cnt ws n M≤r) (h2:r<cnt ws (n+1) M):hm (fall ws) n=M∧cnt ws n M=r:=by
 rw [gU] at h2
 by_cases e:hm (fall ws) n=M
 ·rw [if_pos e] at h2;exact ⟨e,by omega⟩
 ·rw [if_neg e] at h2;omega
theorem Mh {ws:List Nat} {n n' M:Nat} (h:n<n') (e:hm (fall ws) n=M):cnt ws n M<cnt ws n' M:=by
 have h1:=V7 (ws:=ws) (i:=n+1) (j:=n') h M
 rw [gU,if_pos e] at h1
 omega
theorem V8 {ws:List Nat} {n n' M:Nat} (e:hm (fall ws) n=M) (e':hm (fall ws) n' = M) (h:cnt ws n M=cnt ws n' M):n=n':=by
 rcases Nat.lt_trichotomy n n' with z | z | z
 ·have:=Mh z e;omega
 ·exact z
 ·have:=Mh z e';omega
theorem aaC {ws:List Nat} {M M':Nat} (h:M∈aW ws) (h':M'∈aW ws):ix ws M=ix ws M' ↔ M=M':=by
 constructor
 ·intro e
  have h1:=ql h
  rw [e,ql h'] at h1
  exact (Option.some.inj h1).symm
 ·intro e;rw [e]
end My
namespace L2
open PySem PySem.Spec PyProof.Rows PySem.W
section
variable {X:Cx} {K:PySem.W.Frag} {mg:Str→Option Value} {x n y:Str} {C:Addr} {e:Expr} {te:TE} {np cpos pos hp px py spos:Pos} {E:XK} {i j:Nat}
end
end L2
namespace L2
open PySem PySem.Spec PyProof.Rows PySem.W
end L2
namespace My
open PySem L2
end My
namespace My
open PySem L2
end My
namespace My
open PySem PySem.Spec PyProof.Rows L2
structure BD where
 b:Addr
 bx:Addr
 wl:Addr
 tl:Addr
 wr:Addr
 tr:Addr
 ws:List Nat
 ts:List Addr
 us:List Addr
 ms:List (List Nat)
section
variable {K:PySem.W.Frag} {bB:Addr→Nat} {H H':Hp} {n t m:Nat} {hs dx ds:Nat→Addr} {kv:Nat→List (Key×V)} {ky:Nat→List Str} {B:Nat→BD} {R T hl:Addr}
end
end My
namespace My
open PySem PySem.Spec PyProof.Rows L2
theorem RK {H H2:Hp} {x dx:Addr} {o1 o2:HO} (f:H x=none) (g:H dx=none) (fr:∀ b o,b≠x→upd (upd H dx o1) x o2 b=some o→H2 b=some o):Same H H2:=fun c o e=>fr c o (ne_of_none e f) (by rw [upd_ne (ne_of_none e f),upd_ne (ne_of_none e g)];exact e)
theorem uL {H H':Hp} (s:Same H H') {c:Addr} (e:H' c=none):H c=none:=by
 cases z:H c with
 | none=>rfl
 | some o=>rw [s _ _ z] at e;cases e
def Old (Hb:Hp) (bB:Addr→Nat) (H:Hp):Prop:=∀ c o,Hb c=some o→bB c=0∧H c=some o
theorem Old.same {Hb H:Hp} {bB:Addr→Nat} (h:Old Hb bB H):Same Hb H:=fun c o e=>(h c o e).2
section
variable {K:PySem.W.Frag} {bB:Addr→Nat} {H H4:Hp} {n t m:Nat} {hs dx ds:Nat→Addr} {kv:Nat→List (Key×V)} {ky:Nat→List Str} {B:Nat→BD} {R T hl:Addr}
end
theorem aV {bB:Addr→Nat} {x y:Addr} (h:bB x≠bB y):x≠y:=fun e=>h (by rw [e])
section
variable {K:PySem.W.Frag} {bB:Addr→Nat} {H H':Hp} {i n t:Nat} {x:BD}
end
end My
namespace My
open PySem PySem.Spec PyProof.Rows L2
section
variable {K:PySem.W.Frag} {bB:Addr→Nat} {H H':Hp} {n t:Nat} {h dx d:Addr} {kv:List (Key×V)} {nm:Str} {x y:BD}
end
end My
namespace My
open PySem PySem.Spec PyProof.Rows L2
section
variable {K:PySem.W.Frag} {bB:Addr→Nat} {H H':Hp} {n:Nat→Nat} {t:Nat} {h dx d:Addr} {kv:List (Key×V)} {nm:Nat→Str} {B:Nat→BD} {m:Nat}
end
def Alv (H H':Hp):Prop:=∀ c,H c≠none→H' c≠none
theorem Alv.free {H H':Hp} (a:Alv H H') {c:Addr} (h:H' c=none):H c=none:=by
 cases e:H c with
 | none=>rfl
 | some o=>exact absurd h (a c (by rw [e];exact fun z=>nomatch z))
end My
namespace L2
open PySem PySem.Spec PyProof.Rows PySem.W
theorem Good.alias {P:Program} {w:World} {K:PySem.W.Frag} {mg:Str→Option Value} {base:Heap} {CX:CXT} {k:Nat} {x y:Str} {ps:List Str} {sp:Sp} (g:Good P w K mg base CX k x ps sp) (h:mg y=mg x):Good P w K mg base CX k y ps sp:=by
 obtain ⟨f,fd,F,hm,hk,hb⟩:=g
 exact ⟨f,fd,F,h.trans hm,hk,hb⟩
end L2
namespace L2
open PySem PySem.Spec PyProof.Rows PySem.W PySem.Builtin.Str
end L2
namespace My
open PySem PySem.Spec PyProof.Rows L2
def ch (z:Str):List Nat:=z.cps.toList
end My
namespace L2
open PySem PySem.Spec PyProof.Rows PySem.W
theorem za {α β:Type} (f:α→β):∀ (l:List α) (k:Nat),(l.eraseIdx k).map f=(l.map f).eraseIdx k
 | [],_=>rfl
 | _::_,0=>rfl
 | a::r,k+1=>by
  show f a::(r.eraseIdx k).map f=f a::(r.map f).eraseIdx k
  rw [za f r k]
section
variable {X:Cx}
def QC:V→List V→Hp→VK→Prop:=fun x vs H Q=>∃ (l:Addr) (zs:List Str) (z:Str) (j:Nat),x=.ref l∧vs=[.str z]∧H l=some (.lst (zs.map V.str))∧zs[j]? = some z∧(∀ m,m<j→zs[m]? ≠ some z)∧Q .non (upd H l (.lst ((zs.eraseIdx j).map V.str)))
theorem RL:YL X "list.remove" QC:=by
 intro pins s σ H x vs v us Q I rx rv h
 obtain ⟨l,zs,z0,j,rfl,rfl,hH,hj,hno,q⟩:=h
 cases rx
 obtain ⟨u,rfl,ru⟩:=rv.one
 obtain ⟨tu,rfl⟩:=ru
 obtain ⟨z,its,n,r,hl,e⟩:=I.lstM hH
 have hjl:j<zs.length:=(List.getElem?_eq_some_iff.mp hj).1
 have hlen:its.length=zs.length:=by rw [←hl,List.length_map]
 have h63:=line63
 rw [List.length_map] at z
 have at_:∀ (m:Nat) (hm:m<its.toArray.size),∃ (y:Str) (t:Tok),zs[m]? = some y∧its.toArray[m]=.str y t:=fun m hm=>by
  have hm':m<zs.length:=by simpa [hlen] using hm
  obtain ⟨w',hw,rw'⟩:=r.get (i:=m) (x:=.str zs[m]) (by rw [List.getElem?_map,List.getElem?_eq_getElem hm'];rfl)
  obtain ⟨t,rfl⟩:=rw'
  refine ⟨zs[m],t,List.getElem?_eq_getElem hm',?_⟩
  have:its[m]? = some (its[m]'(by omega)):=List.getElem?_eq_getElem (by omega)
  rw [this] at hw
  simpa using hw
 refine call_meets F.slot_list_remove ⟨_,e,rfl⟩ F.entry_list_remove (F.args_list_remove_2 _ _)
  (MeetsSeq.list_remove l its.toArray n (.str z0 tu) (fun y=>match y with | .str y _=>y.cps.toList == z0.cps.toList | _=>false) ?_ j (by simpa [hlen] using hjl) ?_ ?_ (by rw [List.size_toArray];omega)) ⟨e,?_⟩
 ·intro y hy
  obtain ⟨m,hm,rfl⟩:=Array.getElem_of_mem hy
  obtain ⟨y,t,hy1,hy2⟩:=at_ m hm
  rw [hy2]
  exact SeqRoads2.EqGives.str y z0 t tu
 ·obtain ⟨y,t,hy1,hy2⟩:=at_ j (by simpa [hlen] using hjl)
  rw [hy2]
  rw [hj] at hy1
  obtain rfl:=Option.some.inj hy1
  simp
 ·intro m hm hmj
  obtain ⟨y,t,hy1,hy2⟩:=at_ m hm
  rw [hy2]
  have:=hno m hmj
  rw [hy1] at this
  show (y.cps.toList == z0.cps.toList)=false
  rw [beq_eq_false_iff_ne]
  intro z
  refine this ?_
  have:y=z0:=by
   cases y;cases z0
   exact congrArg Str.mk (Array.toList_inj.mp z)
  rw [this]
 ·refine ⟨.non,_,I.Tt (its':=its.eraseIdx j) hH e ?_ (r.eraseIdx j) ?_,rfl,?_⟩
  ·show its.toArray.eraseIdxIfInBounds j=(its.eraseIdx j).toArray
   rw [List.eraseIdxIfInBounds_toArray]
  ·have:=yK (zs.map V.str) j
   rw [List.length_map] at this
   omega
  ·rw [←za];exact q
end
theorem Cv (l:Addr) (z:Str) (H:Hp) (Q:VK):QC (.ref l) [.str z] H Q=∃ (zs:List Str) (j:Nat),H l=some (.lst (zs.map V.str))∧zs[j]? = some z∧(∀ m,m<j→zs[m]? ≠ some z)∧Q .non (upd H l (.lst ((zs.eraseIdx j).map V.str))):=by
 refine propext ⟨fun ⟨l',zs,z',j,e1,e2,a,b,c,d⟩=>?_,fun ⟨zs,j,a,b,c,d⟩=>⟨l,zs,z,j,rfl,rfl,a,b,c,d⟩⟩
 cases e1;cases e2;exact ⟨zs,j,a,b,c,d⟩
end L2
namespace My
open PySem PySem.Spec PyProof.Rows L2
theorem QD (x:Str):∀ l:List Str,inV (.str x) (l.map V.str)=decide (x∈l)
 | []=>by simp [inV]
 | y::r=>by
  have ih:=QD x r
  unfold inV at ih ⊢
  rw [List.map_cons,List.any_cons,ih]
  by_cases h:x=y
  ·subst h;simp [K3]
  ·have:¬ y=x:=fun z=>h z.symm
   simp [K3,h,this]
theorem QF {K:PySem.W.Frag} {neg:Bool} {p:Addr} {H:Hp} {Q:VK} {l:List Str} {x:Str} (h:bA K H p (l.map V.str)) (q:Q (.bl (if neg then !decide (x∈l) else decide (x∈l))) H):rIn K neg (.str x) (.ref p) H Q :=
 ⟨p,_,rfl,h,rfl,by simp [rG],by rw [QD];exact q⟩
section
variable {K:PySem.W.Frag} {H H':Hp} {h dx d KL RD:Addr} {kv rv:List (Key×V)} {ks:List Str} {t:Nat}
end
end My
namespace My
open PySem PySem.Spec PyProof.Rows L2
section
variable {K:PySem.W.Frag} {bB:Addr→Nat} {H H':Hp} {n:Nat→Nat} {t:Nat} {h dx d Nn Rd Td:Addr} {m:Nat} {B:Nat→BD} {ks:List Nat}
end
section
variable {K:PySem.W.Frag} {bB:Addr→Nat} {H H':Hp} {n:Nat→Nat} {t:Nat} {h dx d Nn Rd Td:Addr} {m:Nat} {B:Nat→BD} {ks:List Nat}
end
end My
namespace L2
open PySem PySem.Spec PyProof.Rows PySem.W
section
variable {X:Cx} {pins:List (Addr×Obj)} {σ:St} {H:Hp} {s:Shared} {A:Around} {E:Value→Shared→Prop} {Q:Value→Shared→Prop} {b:Bool}
end
end L2
namespace My
open PySem PySem.Spec PyProof.Rows L2
def Ct:Nat→Type
 | 0=>V
 | n+1=>V ⊕ (Bool×List (Ct n))
end My
namespace L2
open PySem PySem.Spec
end L2
namespace L2
open PySem PySem.Spec PyProof.Rows
theorem Rv.at {K:PySem.W.Frag} {a:Addr} {te:TE} {σ:St} {H:Hp} {Q:VK} {xs:List V} (hS:bA K H a xs) (hlen:xs.length<sizeLine) (Pv:Addr→Nat→List V→Hp→Prop) (h0:∀ D,H D=none→Pv D 0 [] (upd H D (.lst [])))
  (hs:∀ (D:Addr) (i:Nat) (x:V) (ys:List V) (H2:Hp) (R:VK),xs[i]? = some x→H D=none→H2 D=some (.lst ys)→ys.length=i→Pv D i ys H2→Same H H2→(∀ y H3,H3 D=some (.lst ys)→Same H H3→Pv D (i+1) (ys++[y]) (upd H3 D (.lst (ys++[y])))→R y H3)→te (some x::σ) H2 R)
  (hd:∀ D ys H2,H D=none→H2 D=some (.lst ys)→ys.length=xs.length→Pv D xs.length ys H2→Same H H2→Q (.ref D) H2):Rv K a te σ H Q:=by
 have W:∀ (D:Addr),H D=none→∀ (J:It),(∀ i H2,Same H H2→xs.length≤i→J.stop i H2)→(∀ i x H2,Same H H2→xs[i]? = some x→J.go i H2)→(∀ i H2 x H',Same H H2→J.yld i H2 x H'→H' = H2∧xs[i]? = some x) →
   ∃ W:Nat→Nat→Hp→Prop,(∃ m,W 0 m (upd H D (.lst [])))∧∀ i m H2,W i m H2 →
    (J.stop i H2∧Q (.ref D) H2)∨(J.go i H2∧∀ x H',J.yld i H2 x H'→te (some x::σ) H' fun y H3=>∃ ys,H3 D=some (.lst ys)∧ys.length<sizeLine∧∃ m',m'<m∧W (i+1) m' (upd H3 D (.lst (ys++[y])))):=by
  intro D hD J j1 j2 j3
  refine ⟨fun i m H2=>m=xs.length - i∧i≤xs.length∧∃ ys,ys.length=i∧H2 D=some (.lst ys)∧Pv D i ys H2∧Same H H2,⟨xs.length,by simp,Nat.zero_le _,[],rfl,upd_same,h0 D hD,Same.new hD⟩,?_⟩
  rintro i m H2 ⟨rfl,hi,ys,hys,hD2,hP,hsm⟩
  by_cases hlt:i<xs.length
  ·refine .inr ⟨j2 i xs[i] H2 hsm (by simp [hlt]),fun x H' hy=>?_⟩
   obtain ⟨rfl,hx⟩:=j3 i H2 x H' hsm hy
   refine hs D i x ys _ _ hx hD hD2 hys hP hsm fun y H3 Xb h3 hP3=>⟨ys,Xb,by omega,xs.length - (i+1),by omega,rfl,hlt,ys++[y],by simp [hys],upd_same,hP3,fun b o e=>?_⟩
   rw [upd_ne (ne_of_none e hD)]
   exact h3 _ _ e
  ·have e:i=xs.length:=by omega
   subst e
   exact .inl ⟨j1 _ _ hsm (Nat.le_refl _),hd D ys H2 hD hD2 hys hP hsm⟩
 rcases hS with h | h
 ·refine .inl ⟨⟨xs,h⟩,fun D hD=>W D hD (Itl K a) (fun i H2 hs hi=>⟨xs,hs.seq h,hi⟩) (fun i x H2 hs hx=>⟨xs,x,hs.seq h,hx⟩) fun i H2 x H' hs hy=>⟨hy.1,hy.2 xs (hs.seq h)⟩⟩
 ·refine .inr ⟨⟨xs,h⟩,fun D hD=>W D hD (K1 K a) (fun i H2 hs hi=>⟨xs,hs.Em h,hi⟩) (fun i x H2 hs hx=>⟨xs,x,hs.Em h,hx⟩) fun i H2 x H' hs hy=>⟨hy.1,hy.2 xs (hs.Em h)⟩⟩
end L2
namespace My
open PySem PySem.Spec PyProof.Rows L2
end My
namespace My
open PySem PySem.Spec PyProof.Rows L2
def ci (x:V):Ct 1:=.inl x
def flc (xs:List V):Ct 2:=.inr (true,xs.map ci)
def fl1 (b:Bool) (xs:List V):Ct 1:=.inr (b,xs)
structure Rgz (ws:List Nat) (Rs:List (List Int)):Prop where
 ring:∀ R∈Rs,∃ R' M L,aX (fall ws) R' M L∧R=R'.map (fun d:Nat=>(d:Int))
 heads:Rs.map (fun R=>R.headD 0)=(aW ws).map (fun d:Nat=>(d:Int))
def Is (wh:Nat) (ws:List Nat) (n len:Nat) (c:Ct 2):Prop :=
 (wh=0∧∃ k,sU (fall ws) n k∧c=flc ((path (fall ws) n k).map vI))∨(wh=1∧∃ R j,lg (fall ws) n R j∧c=.inr (false,[fl1 true (R.map vI),ci (vI j)]))∨(wh=2∧∃ Rs,Rgz ws Rs∧c=.inr (true,Rs.map fun R=>fl1 true (R.map V.int)))∨((wh=3∨wh=4)∧c=flc ((aW ws).map fun M=>vI (cnt ws n M)))∨(wh=5∧c=flc ((tab (50*len+1) (spd ws len)).map vI))∨(wh=6∧c=flc ((XH ws (n % 121)).map oV))
end My
namespace My
open PySem PySem.Spec PyProof.Rows L2
end My
namespace My
open PySem PySem.Spec PyProof.Rows L2
end My
namespace My
open PySem PySem.Spec PyProof.Rows L2
end My
namespace PySem
theorem u9:entryFor table "dict.update.loop" = some Builtin.«dict.update.loop»:=entryFor_of_tree (by kernel_rfl)
theorem jf:plainId "dict.update.loop" = true:=by decide +kernel
theorem Ye:typeLookup (.type "list") "keys" = pure none:=am_miss_of_fast (by kernel_rfl)
section
variable {prog:Program} {w:World} {A:Around} {E:Value→Shared→Prop} {s:Shared}
theorem Yg {a:Addr} {xs:Array Value} {k:Nat} {Q:Option Value→Shared→Prop} (hx:s.heap.get? a=some { cls:=.type "list",data:=.seq xs k }) (hA:A.handled=none)
  (h:∀ h' tk,(∀ b ob,s.heap.get? b=some ob→h'.get? b=some ob)→Q none { s with heap:=h',toks:=tk }):wpAny (model prog w) A (getAttr? (.ref a) "keys") Q E s:=by
 obtain ⟨hp,g,d,tk,os⟩:=s
 have hT:∀ tk',(⟨hp,g,d,tk',os⟩:Shared).TypeIs (.ref a) "list":=fun _=>⟨_,hx,rfl⟩
 have f1:=sub_AttributeError
 have f3:=F.slot_list_getattribute.lookup
 have f4:=F.slot_list_getattribute.bind (.ref a)
 have f5:=am_list_getattr_none
 unfold getAttr? getAttrBy? getAttrBy
 repeat (any_goals (first | assumption | exact hT _ | ((with_reducible show wpAny _ _ (call (Value.builtin "list.__getattribute__") _ _) _ _ _);refine call_meets F.slot_list_getattribute (hT _) am_entry_list_getattribute (F.args_list_getattribute_2 _ _) (meets_getattribute_miss_list a xs k _ "keys" _ Ye (by decide +kernel)) ⟨hx,hA,fun h' tk' e hx'=>?_⟩) | wp_step))
 obtain ⟨t',u',he⟩:=hx'.there
 show wpAny _ _ (getattributeRaised _ _ _ _ _ _ _) _ _ _
 unfold getattributeRaised
 repeat (any_goals (first | assumption | wp_step))
 all_goals first | exact h _ _ hx'.keeps | skip
end
end PySem
namespace PyProof.Rows
open PySem
section
variable {prog:Program} {w:World} {A:Around} {R:Result→Shared→Prop} {I:Addr} {fp wr:List Addr} {G:Array GenState→Array GenState→Prop} {n:Nat} {P:Nat→Value→Prop} {St:Nat→Shared→Prop} {K:Type} [DecidableEq K] {knd:PySem.KeyKind prog w K}
theorem Yh (W:WalksS prog w A.in1 I fp wr G n P St) (D:Addr) (hDf:D ∉ fp) (kvs:List (K×Value)) (hn:kvs.length=n) (hsz:n≤1000) (tp:Nat→Addr) (ky:Nat→Value) (hval:∀ i v,P i v→v=.ref (tp i)) (hk:∀ (i:Nat) (kv:K×Value),kvs[i]? = some kv→knd.is kv.1 (ky i)=true) (htw:∀ i,i<n→tp i ∉ D::wr) :
  ∀ (k i:Nat) (s:Shared),n - i=k→i≤n→St i s→s.heap.DictOf knd D (merged [] (kvs.take i)) →
   (∀ (i:Nat) (kv:K×Value),kvs[i]? = some kv→∃ o,s.heap.get? (tp i)=some o∧o.cls=.type "tuple"∧∃ m,o.data=.seq #[ky i,kv.2] m) →
   (∀ s',Moved (D::wr) G s s'→s'.heap.DictOf knd D (merged [] kvs)→R (.ok (.ret .none)) s') →
   codeAny (model prog w) A (.builtin "dict.update.loop" ⟨[.ref D,.ref I,rawInt i,.none],[]⟩) R s:=by
 have hDw:D ∉ wr:=fun h=>hDf (W.sub _ h)
 have hsub:∀ b∈wr,b∈D::wr:=fun b hb=>List.mem_cons_of_mem _ hb
 intro k
 induction k with
 | zero =>
  intro i s hk0 hi hst hD ht hR
  have hin:i=n:=by omega
  subst hin
  refine codeAny_builtin u9 ?_
  rw [Around.under_plainId jf _]
  show wpAny _ A.in1 (pyNext (.ref I) >>= _) _ _ s
  refine wpAny_bind (W.done s _ _ hst fun s' hm=>?_)
  show wpAny _ A.in1 (Builtin.Dict.addKeywords D [] >>= _) _ _ s'
  refine wpAny_bind (wpAny_pure (wpAny_pure (hR s' (hm.mono hsub) ?_)))
  rw [←hn,List.take_length] at hD
  obtain ⟨o,es,ep,ho,rest⟩:=hD
  exact ⟨o,es,ep,hm.heap D _ hDw ho,rest⟩
 | succ k ih =>
  intro i s hk0 hi hst hD ht hR
  have hlt:i<n:=by omega
  obtain ⟨kv,hkv⟩:∃ kv,kvs[i]? = some kv:=⟨_,List.getElem?_eq_getElem (by omega)⟩
  refine codeAny_builtin u9 ?_
  rw [Around.under_plainId jf _]
  show wpAny _ A.in1 (pyNext (.ref I) >>= _) _ _ s
  refine wpAny_bind (W.item i s _ _ hlt hst fun v s' hP hst' hm=>?_)
  have hv:=hval i v hP
  subst hv
  have hD':s'.heap.DictOf knd D (merged [] (kvs.take i)):=by
   obtain ⟨o,es,ep,ho,rest⟩:=hD
   exact ⟨o,es,ep,hm.heap D _ hDw ho,rest⟩
  have ht':∀ (i:Nat) (kv:K×Value),kvs[i]? = some kv→∃ o,s'.heap.get? (tp i)=some o∧o.cls=.type "tuple"∧∃ m,o.data=.seq #[ky i,kv.2] m:=fun j kv e=>by
   obtain ⟨o,ho,r⟩:=ht j kv e
   have hj:j<n:=by rw [←hn];exact (List.getElem?_eq_some_iff.mp e).1
   exact ⟨o,hm.heap _ _ (fun z=>htw j hj (hsub _ z)) ho,r⟩
  obtain ⟨o,ho,hc,m,hd⟩:=ht' i kv hkv
  have hT:s'.TypeIs (.ref (tp i)) "tuple":=⟨_,ho,hc⟩
  show wpAny _ A.in1 (holding [Value.ref (tp i)] _ >>= _) _ _ s'
  refine wpAny_bind (wpAny_holding ?_)
  refine wpAny_bind (wpAny_tryCatch ?_)
  unfold Builtin.Dict.pairItems
  refine wpAny_bind (wpAny_typeOf hT ?_)
  rw [if_pos (by decide)]
  refine wpAny_bind (wpAny_seqItems ho hd (wpAny_pure ?_))
  show wpAny _ A.in1 (holding [ky i,kv.2] (dictSet D (ky i) kv.2)) _ _ s'
  refine wpAny_holding ?_
  refine wpAny_dictSet_pairs (hk i kv hkv) hD' (fun h' hD2 hsb=>?_) (by have:=merged_length_le ([]:List (K×Value)) (kvs.take i);rw [List.length_take] at this;simp at this;unfold sizeLine;omega)
  rw [←merged_take_succ [] kvs i kv hkv] at hD2
  refine wpAny_pure ⟨plainId_quiet jf _,?_⟩
  have e1:rawInt ((i:Int)+1)=rawInt ((i+1:Nat):Int):=by congr 1
  refine ih (i+1) _ (by omega) hlt (W.frame _ s' _ _ hst' (Nat.le_succ _) fun b hb o e=>?_) hD2 (fun j kv e=>?_) fun s'' hm'' adb=>?_
  ·rw [hsb.2 b (fun h:b=D=>hDf (by rw [←h];exact hb))];exact e
  ·obtain ⟨o,ho,r⟩:=ht' j kv e
   have hj:j<n:=by rw [←hn];exact (List.getElem?_eq_some_iff.mp e).1
   exact ⟨o,by rw [hsb.2 _ (fun h:tp j=D=>htw j hj (by rw [h];exact List.mem_cons_self))];exact ho,r⟩
  ·refine hR s'' (Moved.trans W.gtrans ((hm.mono hsub).then_heap (Nat.le_succ _) fun b o hb e=>?_) hm'') adb
   rw [hsb.2 b (fun h:b=D=>hb (by rw [h];exact List.mem_cons_self))];exact e
end
section
variable {prog:Program} {w:World} {A:Around} {E:Value→Shared→Prop} {s:Shared} {K:Type} [DecidableEq K] {knd:PySem.KeyKind prog w K}
theorem Yi {l:Addr} {items:Array Value} {c:Nat} {kvs:List (K×Value)} {tp:Nat→Addr} {ky:Nat→Value} {Q:Value→Shared→Prop} (hh:A.handled=none)
  (hl:s.heap.get? l=some { cls:=.type "list",data:=.seq items c }) (hn:kvs.length=items.size) (hsz:items.size≤1000) (hval:∀ (i:Nat) v,items[i]? = some v→v=.ref (tp i)) (hk:∀ (i:Nat) (kv:K×Value),kvs[i]? = some kv→knd.is kv.1 (ky i)=true)
  (ht:∀ (i:Nat) (kv:K×Value),kvs[i]? = some kv→∃ o,s.heap.get? (tp i)=some o∧o.cls=.type "tuple"∧∃ m,o.data=.seq #[ky i,kv.2] m)
  (h:∀ h' tk,h'.DictOf knd s.heap.objs.size (merged [] kvs)→(∀ b o,s.heap.get? b=some o→h'.get? b=some o)→Q (.ref s.heap.objs.size) { s with heap:=h',toks:=tk }) :
  wpAny (model prog w) A (call (.type "dict") [.ref l]) Q E s:=by
 refine callType_codes (Q₁:=fun obj s₁=>obj=.ref s.heap.objs.size∧s₁={ s with heap:=s.heap.push { cls:=.type "dict",data:=.dict #[] } }) F.kt_called_dict (F.kt_typeCall_dict_1 _) F.entry_dict_init (kt_code_dict_new _ ⟨rfl,rfl⟩) ?_
 rintro obj s₁ ⟨rfl,rfl⟩
 have hnew:(s.heap.push { cls:=.type "dict",data:=.dict #[] }).DictOf knd s.heap.objs.size []:=Heap.DictOf.new s.heap
 have hl1:(s.heap.push { cls:=.type "dict",data:=.dict #[] }).get? l=some { cls:=.type "list",data:=.seq items c }:=Heap.get?_push_of_some _ hl
 refine ⟨hnew.typeIs,F.args_dict_init_2 _ _,?_⟩
 unfold Builtin.«dict.__init__»
 refine wpAny_bind ?_
 unfold Builtin.Dict.selfAndRest
 refine wpAny_bind (wpAny_notOrdered_dict hnew.typeIs ?_)
 show wpAny _ _ (pure (s.heap.objs.size,[Value.ref l])) _ _ _
 refine wpAny_pure ?_
 show wpAny _ _ (Builtin.Dict.updateFrom "dict.__init__" s.heap.objs.size (.ref l) [] .none) _ _ _
 unfold Builtin.Dict.updateFrom
 refine wpAny_bind (wpAny_typeOf (⟨_,hl1,rfl⟩:Shared.TypeIs { s with heap:=s.heap.push { cls:=.type "dict",data:=.dict #[] } } (.ref l) "list") ?_)
 rw [if_pos (by decide)]
 refine wpAny_bind (Yg hl1 (by simp [hh]) fun h2 tk2 k2=>?_)
 rw [if_pos (by rfl)]
 have hl2:=k2 _ _ hl1
 have hL2:h2.IsList l items:=⟨_,hl2,rfl,c,rfl⟩
 refine wpAny_bind (wpAny_rule ?_)
 refine wpAny_bind (wpAny_pyIter_list hL2 ?_)
 refine wpAny_pure ⟨plainId_quiet jf _,?_⟩
 have hl0:l<s.heap.objs.size:=Heap.lt_size hl
 have hD2:h2.DictOf knd s.heap.objs.size []:=by
  obtain ⟨o,es,ep,ho,r⟩:=hnew
  exact ⟨o,es,ep,k2 _ _ ho,r⟩
 have hsize:s.heap.objs.size<h2.objs.size:=by
  obtain ⟨o,_,_,ho,_⟩:=hD2
  exact Heap.lt_size ho
 have hlt:∀ i,i<items.size→tp i<s.heap.objs.size:=fun i hi=>by
  obtain ⟨kv,e⟩:∃ kv,kvs[i]? = some kv:=⟨_,List.getElem?_eq_getElem (by omega)⟩
  obtain ⟨o,ho,_⟩:=ht i kv e
  exact Heap.lt_size ho
 refine Yh (knd:=knd) (A:=A.in1) ((Walks.list (A:=A.in1.in1) (by simp [hh]) h2.objs.size l (Nat.ne_of_lt (Nat.lt_trans hl0 hsize)) items).toS) s.heap.objs.size (fun z=>(List.mem_cons.mp z).elim (Nat.ne_of_lt hsize) fun z=>Nat.ne_of_gt hl0 (List.mem_singleton.mp z)) kvs hn hsz tp ky hval hk (fun i hi z=>(List.mem_cons.mp z).elim (Nat.ne_of_lt (hlt i hi)) fun z=>Nat.ne_of_lt (Nat.lt_trans (hlt i hi) hsize) (List.mem_singleton.mp z)) (items.size - 0) 0 _ (by omega) (Nat.zero_le _)
  ⟨⟨_,Heap.get?_push_size _ rfl,rfl,rfl⟩,hL2.push _⟩ ?_ (fun i kv e=>?_) ?_
 ·exact hD2.push _
 ·obtain ⟨o,ho,r⟩:=ht i kv e
  exact ⟨o,Heap.get?_push_of_some _ (k2 _ _ (Heap.get?_push_of_some _ ho)),r⟩
 ·intro s' hm hD'
  obtain ⟨h',g',d',tk',os'⟩:=s'
  have eg:g' = s.gens:=hm.gens
  have ed:d' = s.drawn:=hm.drawn
  have eo:os' = s.os:=hm.os
  subst eg;subst ed;subst eo
  refine ⟨rfl,h h' tk' hD' fun b o e=>?_⟩
  have hb:=Heap.lt_size e
  exact hm.heap b o (fun z=>(List.mem_cons.mp z).elim (Nat.ne_of_lt hb) fun z=>Nat.ne_of_lt (Nat.lt_trans hb hsize) (List.mem_singleton.mp z)) (Heap.get?_push_of_some _ (k2 _ _ (Heap.get?_push_of_some _ e)))
end
end PyProof.Rows
namespace L2
open PySem PySem.Spec PyProof.Rows
section
variable {X:Cx}
theorem Yj:bootBuiltins "dict" = some (.type "dict"):=by rfl
def V9:List V→Hp→VK→Prop:=fun xs H Q=>∃ (a:Addr) (ps:List Addr) (kvs:List (Key×V)),xs=[.ref a]∧H a=some (.lst (ps.map V.ref))∧ps.length=kvs.length∧(∀ (i:Nat) p kv,ps[i]? = some p→kvs[i]? = some kv→H p=some (.tup [kV kv.1,kv.2]))∧(kvs.map (·.1)).Nodup∧kvs.length≤1000∧∀ d,H d=none→Q (.ref d) (upd H d (.dK kvs))
theorem QH {h:Heap} {P:Program} {w:World}:∀ {ps:List Addr} {kvs:List (Key×V)},ps.length=kvs.length→(∀ (i:Nat) p kv,ps[i]? = some p→kvs[i]? = some kv→∃ ky v,(mixKind P w).is kv.1 ky=true∧RelV kv.2 v∧∃ o,h.get? p=some o∧o.cls=.type "tuple"∧∃ m,o.data=.seq #[ky,v] m) →
  ∃ (ks:List (Key×Value)) (kys:List Value),KV kvs ks∧∀ (i:Nat) p kv,ps[i]? = some p→ks[i]? = some kv→(mixKind P w).is kv.1 (kys.getD i .none)=true∧∃ o,h.get? p=some o∧o.cls=.type "tuple"∧∃ m,o.data=.seq #[kys.getD i .none,kv.2] m
 | [],[],_,_=>⟨[],[],.nil,fun i p kv e _=>by simp at e⟩
 | p::ps,(k,v)::kvs,e,h=>by
  obtain ⟨ky,u,h1,h2,h3⟩:=h 0 p (k,v) rfl rfl
  obtain ⟨ks,kys,g1,g2⟩:=QH (ps:=ps) (kvs:=kvs) (Nat.succ.inj e) fun i p kv a b=>h (i+1) p kv a b
  refine ⟨(k,u)::ks,ky::kys,.cons ⟨rfl,h2⟩ g1,fun i q kv a b=>?_⟩
  cases i with
  | zero =>
   rw [List.getElem?_cons_zero] at a b
   cases a;cases b
   exact ⟨h1,h3⟩
  | succ i=>exact g2 i q kv a b
theorem Mi (hc:X.calm=true):CallR X (.type "dict") V9:=by
 intro pins s σ H xs us Q I r h
 obtain ⟨a,ps,kvs,rfl,ha,hl,ht,nd,hz,q⟩:=h
 obtain ⟨u,rfl,rx⟩:=vals1 r
 cases rx
 obtain ⟨_,its,c,rv,hg⟩:=(show ObjOk X.prog X.w H s.heap a (.lst (ps.map V.ref)) from I.hok a _ ha)
 have hil:its.length=ps.length:=by have:=rv.length;rw [List.length_map] at this;exact this.symm
 have tup:∀ (i:Nat) p kv,ps[i]? = some p→kvs[i]? = some kv→∃ ky v,(mixKind X.prog X.w).is kv.1 ky=true∧RelV kv.2 v∧∃ o,s.heap.get? p=some o∧o.cls=.type "tuple"∧∃ m,o.data=.seq #[ky,v] m:=fun i p kv e1 e2=>by
  obtain ⟨_,its2,rv2,o,h1,h2,m,h3⟩:=(show ObjOk X.prog X.w H s.heap p (.tup [kV kv.1,kv.2]) from I.hok p _ (ht i p kv e1 e2))
  obtain ⟨u,w',rfl,r1,r2⟩:=vals2 rv2
  exact ⟨u,w',kV_is r1,r2,o,h1,h2,m,h3⟩
 obtain ⟨ks,kys,rel,hks⟩:=QH hl tup
 have hkl:=rel.length
 have at_:∀ (i:Nat) kv,ks[i]? = some kv→ps[i]? = some (ps.getD i 0):=fun i kv e=>by
  have hi:=(List.getElem?_eq_some_iff.mp e).1
  rw [List.getD_eq_getElem?_getD,List.getElem?_eq_getElem (by omega)];rfl
 refine Yi (knd:=mixKind X.prog X.w) (kvs:=ks) (tp:=fun i=>ps.getD i 0) (ky:=fun i=>kys.getD i .none) (I.ok.hd hc) hg (by rw [List.size_toArray];omega) (by rw [List.size_toArray];omega) (fun i v e=>?_) (fun i kv e=>(hks i _ kv (at_ i kv e) e).1) (fun i kv e=>(hks i _ kv (at_ i kv e) e).2) fun h' tk hD hk=>?_
 ·have hi:=(List.getElem?_eq_some_iff.mp (show its[i]? = some v by simpa using e)).1
  have e1:ps[i]? = some (ps.getD i 0):=by rw [List.getD_eq_getElem?_getD,List.getElem?_eq_getElem (by omega)];rfl
  obtain ⟨u,e3,e2⟩:=rv.get (show (ps.map V.ref)[i]? = some (.ref (ps.getD i 0)) by rw [List.getElem?_map,e1];rfl)
  rw [show its[i]? = some v by simpa using e] at e3
  cases e3
  cases e2
  rfl
 ·have nd2:(ks.map (·.1)).Nodup:=by rw [←rel.keys];exact nd
  rw [merged_nil_of_nodup ks nd2] at hD
  refine ⟨.ref s.heap.objs.size,_,I.laid (t':=tk) hk (Nat.le_refl _) (show ObjOk X.prog X.w _ h' _ (.dK kvs) from ⟨by unfold sizeLine;omega,?_,ks,rel,hD⟩),rfl,q _ (I.hok.fresh (Nat.le_refl _))⟩
  exact beq_eq_false_iff_ne.mpr (Nat.ne_of_gt I.big)
theorem Gz (a:Addr) (H:Hp) (Q:VK):V9 [.ref a] H Q=∃ (ps:List Addr) (kvs:List (Key×V)),H a=some (.lst (ps.map V.ref))∧ps.length=kvs.length∧(∀ (i:Nat) p kv,ps[i]? = some p→kvs[i]? = some kv→H p=some (.tup [kV kv.1,kv.2]))∧(kvs.map (·.1)).Nodup∧kvs.length≤1000∧∀ d,H d=none→Q (.ref d) (upd H d (.dK kvs)):=by
 refine propext ⟨fun h=>?_,fun h=>?_⟩
 ·obtain ⟨_,ps,kvs,e,h1⟩:=h
  cases e
  exact ⟨ps,kvs,h1⟩
 ·obtain ⟨ps,kvs,h1⟩:=h
  exact ⟨a,ps,kvs,rfl,h1⟩
end
end L2
namespace My
open PySem PySem.Spec PyProof.Rows L2
def Kp (K:PySem.W.Frag) (H:Hp) (h:Addr) (nm:Str) (ws:List Nat):Prop:=∃ (dx d b bx wl tl:Addr) (kvs:List (Key×V)),H h=some (.ins (sW K "House") dx [("books",.ref d)])∧H d=some (.dK kvs)∧valV kvs (.inr nm)=some (.ref b)∧H b=some (.ins (sW K "Book") bx [("worths",.ref wl),("told",.ref tl)])∧H wl=some (.lst (ws.map vI))
theorem Kp.same {K:PySem.W.Frag} {H H':Hp} {h:Addr} {nm:Str} {ws:List Nat} (x:Kp K H h nm ws) (s:Same H H'):Kp K H' h nm ws:=by
 obtain ⟨dx,d,b,bx,wl,tl,kvs,h1,h2,h3,h4,h5⟩:=x
 exact ⟨dx,d,b,bx,wl,tl,kvs,s _ _ h1,s _ _ h2,h3,s _ _ h4,s _ _ h5⟩
end My
namespace My
open PySem PySem.Spec PyProof.Rows L2
theorem Bq {K:PySem.W.Frag} {neg:Bool} {p:Addr} {H:Hp} {Q:VK} {l:List Str} {x:Str} (h:bA K H p (l.map V.str)) (m:x∈l) (q:Q (.bl (!neg)) H):rIn K neg (.str x) (.ref p) H Q:=QF h (by rw [decide_eq_true m];cases neg <;> exact q)
theorem Hz {K:PySem.W.Frag} {neg:Bool} {p:Addr} {H:Hp} {Q:VK} {l:List Str} {x:Str} (h:bA K H p (l.map V.str)) (m:¬ x∈l) (q:Q (.bl neg) H):rIn K neg (.str x) (.ref p) H Q:=QF h (by rw [decide_eq_false m];cases neg <;> exact q)
theorem Alv.abV {H H':Hp} {a b x y:Addr} {o1 o2 o3 o4:HO} (h1:H' a=some o1) (h2:H' b=some o2) (h3:H' x=some o3) (h4:H' y=some o4) (f:∀ c o,c≠a→c≠b→c≠x→c≠y→H c=some o→H' c=some o):Alv H H':=fun c h e=>by
 have n1:c≠a:=fun z=>by rw [z,h1] at e;cases e
 have n2:c≠b:=fun z=>by rw [z,h2] at e;cases e
 have n3:c≠x:=fun z=>by rw [z,h3] at e;cases e
 have n4:c≠y:=fun z=>by rw [z,h4] at e;cases e
 cases z:H c with
 | none=>exact h z
 | some o=>rw [f c o n1 n2 n3 n4 z] at e;cases e
theorem abW {c X Y:Prop} [Decidable c] (h:c→Y→X) (y:Y):if c then X else Y:=by
 by_cases z:c
 ·rw [if_pos z];exact h z y
 ·rw [if_neg z];exact y
def cR (i:Nat):Str:=if i=0 then "p" else if i=1 then "q" else if i=2 then "pq" else "new"
theorem wY {i j:Nat} (hi:i<4) (hj:j<4) (e:cR i=cR j):i=j:=by
 have:∀ i j:Fin 4,cR i=cR j→(i:Nat)=j:=by decide +kernel
 exact this ⟨i,hi⟩ ⟨j,hj⟩ e
def qp (ks:List Nat) (f:Nat→V):List (Key×V):=ks.map fun i=>(.inr (cR i),f i)
def jV (ks:List Nat) (j:Nat):List Nat:=if j∈ks then ks else ks++[j]
section
variable {f g:Nat→V} {ks:List Nat} {j:Nat}
theorem gW (hj:j<4):∀ {ks:List Nat},(∀ i∈ks,i<4)→valV (qp ks f) (.inr (cR j))=if j∈ks then some (f j) else none
 | [],_=>by rw [if_neg (fun z=>nomatch z)];rfl
 | x::r,h=>by
  have ih:=gW (ks:=r) hj fun i hi=>h i (List.mem_cons_of_mem _ hi)
  show valV ((Sum.inr (cR x),f x)::qp r f) _=_
  by_cases e:x=j
  ·subst e
   rw [valV_pos rfl,if_pos List.mem_cons_self]
  ·rw [valV_neg (fun z=>e (wY (h x List.mem_cons_self) hj (Sum.inr.inj z))),ih]
   by_cases y:j∈r
   ·rw [if_pos y,if_pos (List.mem_cons_of_mem _ y)]
   ·rw [if_neg y,if_neg (fun z=>(List.mem_cons.mp z).elim (fun q=>e q.symm) y)]
theorem QJ (hj:j<4) (h:∀ i∈ks,i<4) (v:V):putK (qp ks f) (.inr (cR j)) v=qp (jV ks j) fun i=>if i=j then v else f i:=by
 unfold jV
 by_cases y:j∈ks
 ·rw [if_pos y]
  unfold putK
  rw [valV_any,gW hj h,if_pos y,if_pos (by rfl)]
  unfold qp
  rw [List.map_map]
  refine List.map_congr_left fun x hx=>?_
  show (if (Sum.inr (cR x):Key)=Sum.inr (cR j) then ((Sum.inr (cR x):Key),v) else (Sum.inr (cR x),f x))=(Sum.inr (cR x),if x=j then v else f x)
  by_cases e:x=j
  ·rw [if_pos (by rw [e]),if_pos e]
  ·rw [if_neg (fun z=>e (wY (h x hx) hj (Sum.inr.inj z))),if_neg e]
 ·rw [if_neg y,putK_new v (by rw [gW hj h,if_neg y])]
  unfold qp
  rw [List.map_append]
  congr 1
  ·refine List.map_congr_left fun x hx=>?_
   show _=(Sum.inr (cR x),if x=j then v else f x)
   rw [if_neg (fun z:x=j=>y (z ▸ hx))]
  ·show _=[(Sum.inr (cR j),if j=j then v else f j)]
   rw [if_pos rfl]
theorem JX (hj:j<4):∀ {ks:List Nat},(∀ i∈ks,i<4)→dropK (qp ks f) (.inr (cR j))=qp (ks.filter fun i=>decide (i≠j)) f
 | [],_=>rfl
 | x::r,h=>by
  have ih:=JX (ks:=r) hj fun i hi=>h i (List.mem_cons_of_mem _ hi)
  show dropK ((Sum.inr (cR x),f x)::qp r f) _=_
  by_cases e:x=j
  ·subst e
   rw [dropK_pos rfl,ih,List.filter_cons,if_neg (by simp)]
  ·rw [dropK_neg (fun z=>e (wY (h x List.mem_cons_self) hj (Sum.inr.inj z))),ih,List.filter_cons,if_pos (by simpa using e)]
   rfl
theorem JZ:∀ {ks:List Nat} {m i:Nat},ks.Nodup→ks[m]? = some i→ks.eraseIdx m=ks.filter fun k=>decide (k≠i)
 | x::r,0,i,nd,e=>by
  cases e
  rw [List.nodup_cons] at nd
  rw [List.eraseIdx_cons_zero,List.filter_cons,if_neg (by simp)]
  exact (List.filter_eq_self.mpr fun k hk=>decide_eq_true (show k≠x from fun z=>nd.1 (z ▸ hk))).symm
 | x::r,m+1,i,nd,e=>by
  rw [List.nodup_cons] at nd
  rw [List.getElem?_cons_succ] at e
  rw [List.eraseIdx_cons_succ,List.filter_cons,if_pos (decide_eq_true (show x≠i from fun z=>nd.1 (z ▸ List.mem_of_getElem? e))),JZ nd.2 e]
theorem QK (hj:j<4) (h:∀ i∈ks,i<4):cR j∈ks.map cR ↔ j∈ks:=by
 constructor
 ·intro z
  obtain ⟨i,hi,e⟩:=List.mem_map.mp z
  exact (wY (h i hi) hj e) ▸ hi
 ·exact fun z=>List.mem_map_of_mem z
end
theorem Bk.set {ws:List Nat} (b:Bk ws) {f w:Nat} (h:w≤50):Bk (ws.set f w):=⟨by rw [List.length_set];exact b.two,by rw [List.length_set];exact b.top,fun x hx=>by
 rcases List.mem_or_eq_of_mem_set hx with z | z
 ·exact b.le x z
 ·rw [z];exact h⟩
structure En where
 r:Addr
 u:Addr
 f:Nat
 y:Nat
 w:Nat
structure BX where
 b:Addr
 bx:Addr
 wl:Addr
 tl:Addr
 wr:Addr
 tr:Addr
 ws:List Nat
 es:List En
structure BQ (K:PySem.W.Frag) (bB:Addr→Nat) (H:Hp) (i t:Nat) (x:BX):Prop where
 hb:H x.b=some (.ins (sW K "Book") x.bx [("worths",.ref x.wl),("told",.ref x.tl)])
 lb:bB x.b=0
 hwl:H x.wl=some (.lst (x.ws.map vI))
 lwl:bB x.wl=10*(i+1)+1
 htl:H x.tl=some (.lst (x.es.map fun e=>.ref e.r))
 ltl:bB x.tl=10*(i+1)+2
 hwr:H x.wr=some (.lst (x.ws.map vI))
 lwr:bB x.wr=10*(i+1)+3
 htr:H x.tr=some (.lst (x.es.map fun e=>.ref e.u))
 ltr:bB x.tr=10*(i+1)+4
 bk:Bk x.ws
 le:x.es.length≤t
 he:∀ e∈x.es,H e.r=some (.tup [vI e.f,vI e.y,vI e.w])∧bB e.r=0∧H e.u=some (.lst [vI e.f,vI e.y])∧bB e.u=0∧e.f<x.ws.length∧e.y≤50
theorem BQ.fr {K:PySem.W.Frag} {bB rZ:Addr→Nat} {H H':Hp} {i t t':Nat} {x:BX} (h:BQ K bB H i t x) (ht:t≤t') (f:∀ c o,H c=some o→rZ c=bB c)
  (g:∀ c o,H c=some o→(bB c / 10=0∨bB c / 10=i+1)→H' c=some o):BQ K rZ H' i t' x:=by
 have l0:=h.lb;have e1:=h.lwl;have e2:=h.ltl;have e3:=h.lwr;have e4:=h.ltr;have e5:=h.le
 refine ⟨g _ _ h.hb (by omega),(f _ _ h.hb).trans l0,g _ _ h.hwl (by omega),(f _ _ h.hwl).trans e1,g _ _ h.htl (by omega),(f _ _ h.htl).trans e2,g _ _ h.hwr (by omega),(f _ _ h.hwr).trans e3,g _ _ h.htr (by omega),(f _ _ h.htr).trans e4,h.bk,by omega,fun e he=>?_⟩
 obtain ⟨z1,z2,z3,z4,z5,z6⟩:=h.he e he
 exact ⟨g _ _ z1 (by omega),(f _ _ z1).trans z2,g _ _ z3 (by omega),(f _ _ z3).trans z4,z5,z6⟩
theorem BQ.tell {K:PySem.W.Frag} {bB:Addr→Nat} {H H':Hp} {i t f w:Nat} {r u:Addr} {x:BX} (h:BQ K bB H i t x) (hf:f<x.ws.length) (hw:w≤50) (lr:bB r=0) (lu:bB u=0) (g:∀ c o,H c=some o→bB c=0→H' c=some o)
  (h1:H' x.wl=some (.lst ((x.ws.set f w).map vI))) (h2:H' x.tl=some (.lst ((x.es.map fun e=>V.ref e.r)++[.ref r]))) (h3:H' x.wr=some (.lst ((x.ws.set f w).map vI))) (h4:H' x.tr=some (.lst ((x.es.map fun e=>V.ref e.u)++[.ref u])))
  (h5:H' r=some (.tup [vI f,vI (wt x.ws f),vI w])) (h6:H' u=some (.lst [vI f,vI (wt x.ws f)])):BQ K bB H' i (t+1) { x with ws:=x.ws.set f w,es:=x.es++[⟨r,u,f,wt x.ws f,w⟩] }:=by
 refine ⟨g _ _ h.hb h.lb,h.lb,h1,h.lwl,by rw [List.map_append];exact h2,h.ltl,h3,h.lwr,by rw [List.map_append];exact h4,h.ltr,h.bk.set hw,?_,fun e he=>?_⟩
 ·rw [List.length_append];exact Nat.succ_le_succ h.le
 ·show _∧_∧_∧_∧e.f<(x.ws.set f w).length∧_
  rw [List.length_set]
  rcases List.mem_append.mp he with z | z
  ·obtain ⟨z1,z2,z3,z4,z5,z6⟩:=h.he e z
   exact ⟨g _ _ z1 z2,z2,g _ _ z3 z4,z4,z5,z6⟩
  ·rw [List.mem_singleton.mp z]
   exact ⟨h5,lr,h6,lu,hf,Gg h.bk.le _⟩
theorem BQ.back {K:PySem.W.Frag} {bB:Addr→Nat} {H H':Hp} {i t:Nat} {x:BX} {es:List En} {e:En} (h:BQ K bB H i t x) (hes:x.es=es++[e]) (g:∀ c o,H c=some o→bB c=0→H' c=some o)
  (h1:H' x.wl=some (.lst ((x.ws.set e.f e.y).map vI))) (h2:H' x.tl=some (.lst (es.map fun e=>V.ref e.r))) (h3:H' x.wr=some (.lst ((x.ws.set e.f e.y).map vI))) (h4:H' x.tr=some (.lst (es.map fun e=>V.ref e.u))):BQ K bB H' i (t+1) { x with ws:=x.ws.set e.f e.y,es:=es }:=by
 have hm:∀ e'∈es,e'∈x.es:=fun e' z=>by rw [hes];exact List.mem_append_left _ z
 have le:=h.le
 rw [hes,List.length_append,List.length_singleton] at le
 refine ⟨g _ _ h.hb h.lb,h.lb,h1,h.lwl,h2,h.ltl,h3,h.lwr,h4,h.ltr,h.bk.set (h.he e (by rw [hes];exact List.mem_append_right _ List.mem_cons_self)).2.2.2.2.2,?_,fun e' he=>?_⟩
 ·show es.length≤t+1
  omega
 ·show _∧_∧_∧_∧e'.f<(x.ws.set e.f e.y).length∧_
  rw [List.length_set]
  obtain ⟨z1,z2,z3,z4,z5,z6⟩:=h.he e' (hm e' he)
  exact ⟨g _ _ z1 z2,z2,g _ _ z3 z4,z4,z5,z6⟩
structure HP (K:PySem.W.Frag) (bB:Addr→Nat) (H:Hp) (t:Nat) (h dx d Nn Rd Td:Addr) (B:Nat→BX) (ks rs:List Nat):Prop where
 hh:H h=some (.ins (sW K "House") dx [("books",.ref d)])
 lh:bB h=0
 hd:H d=some (.dK (qp ks fun i=>.ref (B i).b))
 ld:bB d=51
 hN:H Nn=some (.lst ((ks.map cR).map V.str))
 lN:bB Nn=52
 hR:H Rd=some (.dK (qp rs fun i=>.ref (B i).wr))
 lR:bB Rd=53
 hT:H Td=some (.dK (qp rs fun i=>.ref (B i).tr))
 lT:bB Td=54
 bk:∀ i∈ks,BQ K bB H i t (B i)
 nk:ks.Nodup
 nr:rs.Nodup
 kr:∀ i∈ks,i∈rs
 r3:∀ i∈rs,i<3
 Zj:∀ c,H c=none→bB c=0
def J0 (B:Nat→BX) (i:Nat) (x:BX):Nat→BX:=fun k=>if k=i then x else B k
section
variable {K:PySem.W.Frag} {bB:Addr→Nat} {H H':Hp} {t:Nat} {h dx d Nn Rd Td:Addr} {B:Nat→BX} {ks rs:List Nat}
theorem pC {i:Nat} {x:BX}:J0 B i x i=x:=if_pos rfl
theorem wZ {i k:Nat} {x:BX} (h:k≠i):J0 B i x k=B k:=if_neg h
theorem HP.k3 (a:HP K bB H t h dx d Nn Rd Td B ks rs):∀ i∈ks,i<3:=fun i hi=>a.r3 i (a.kr i hi)
theorem HP.kl (a:HP K bB H t h dx d Nn Rd Td B ks rs):ks.length≤3:=yP 3 ks a.nk a.k3
theorem HP.rl (a:HP K bB H t h dx d Nn Rd Td B ks rs):rs.length≤3:=yP 3 rs a.nr a.r3
theorem HP.same (a:HP K bB H t h dx d Nn Rd Td B ks rs) (s:Same H H') {t':Nat} (ht:t≤t'):HP K bB H' t' h dx d Nn Rd Td B ks rs :=
 ⟨s _ _ a.hh,a.lh,s _ _ a.hd,a.ld,s _ _ a.hN,a.lN,s _ _ a.hR,a.lR,s _ _ a.hT,a.lT,fun i hi=>(a.bk i hi).fr ht (fun _ _ _=>rfl) fun c o e _=>s _ _ e,a.nk,a.nr,a.kr,a.r3,fun c e=>a.Zj c (uL s e)⟩
theorem HP.deed (a:HP K bB H t h dx d Nn Rd Td B ks rs) {i:Nat} (hi:i∈ks) {x:BX} (hx:BQ K bB H' i (t+1) x) (s1:x.b=(B i).b) (s2:x.wr=(B i).wr) (s3:x.tr=(B i).tr) (g:∀ c o,H c=some o→bB c / 10≠i+1→H' c=some o) (al:Alv H H') :
  HP K bB H' (t+1) h dx d Nn Rd Td (J0 B i x) ks rs:=by
 have l0:=a.lh;have l1:=a.ld;have l2:=a.lN;have l3:=a.lR;have l4:=a.lT;have i3:=a.k3 i hi
 have q:∀ (F:BX→Addr),F x=F (B i)→(fun k=>V.ref (F (J0 B i x k)))=fun k=>V.ref (F (B k)):=fun F e=>by
  funext k
  by_cases z:k=i
  ·rw [z,pC,e]
  ·rw [wZ z]
 refine ⟨g _ _ a.hh (by omega),a.lh,?_,a.ld,g _ _ a.hN (by omega),a.lN,?_,a.lR,?_,a.lT,fun k hk=>?_,a.nk,a.nr,a.kr,a.r3,fun c e=>a.Zj c (al.free e)⟩
 ·rw [q (fun y=>y.b) s1];exact g _ _ a.hd (by omega)
 ·rw [q (fun y=>y.wr) s2];exact g _ _ a.hR (by omega)
 ·rw [q (fun y=>y.tr) s3];exact g _ _ a.hT (by omega)
 ·by_cases z:k=i
  ·rw [z,pC];exact hx
  ·rw [wZ z];exact (a.bk k hk).fr (Nat.le_succ _) (fun _ _ _=>rfl) fun c o e l=>g _ _ e (by omega)
theorem HP.drop (a:HP K bB H t h dx d Nn Rd Td B ks rs) {i:Nat} (hd:H' d=some (.dK (qp (ks.filter fun k=>decide (k≠i)) fun i=>.ref (B i).b))) (hN:H' Nn=some (.lst (((ks.filter fun k=>decide (k≠i)).map cR).map V.str))) (g:∀ c o,H c=some o→c≠d→c≠Nn→H' c=some o) :
  HP K bB H' (t+1) h dx d Nn Rd Td B (ks.filter fun k=>decide (k≠i)) rs:=by
 have l0:=a.lh;have l1:=a.ld;have l2:=a.lN;have l3:=a.lR;have l4:=a.lT
 have sub:∀ k∈ks.filter (fun k=>decide (k≠i)),k∈ks:=fun k hk=>(List.mem_filter.mp hk).1
 have g':∀ c o,H c=some o→bB c≠51→bB c≠52→H' c=some o:=fun c o e n1 n2=>g c o e (aV (bB:=bB) (by omega)) (aV (bB:=bB) (by omega))
 refine ⟨g' _ _ a.hh (by omega) (by omega),a.lh,hd,a.ld,hN,a.lN,g' _ _ a.hR (by omega) (by omega),a.lR,g' _ _ a.hT (by omega) (by omega),a.lT,fun k hk=>(a.bk k (sub k hk)).fr (Nat.le_succ _) (fun _ _ _=>rfl) fun c o e l=>g' _ _ e (by have:=a.k3 k (sub k hk);omega) (by have:=a.k3 k (sub k hk);omega),a.nk.filter _,a.nr,fun k hk=>a.kr k (sub k hk),a.r3,fun c e=>?_⟩
 by_cases z1:c=d
 ·rw [z1,hd] at e;cases e
 ·by_cases z2:c=Nn
  ·rw [z2,hN] at e;cases e
  ·cases y:H c with
   | none=>exact a.Zj c y
   | some o=>rw [g c o y z1 z2] at e;cases e
theorem HP.keep (a:HP K bB H t h dx d Nn Rd Td B ks rs) {i:Nat} (hi3:i<3) (hi:i ∉ ks) {b bx wl tl wr tr:Addr} {ws:List Nat} (hb:Bk ws)
  (f1:H b=none) (f2:H wl=none) (f3:H tl=none) (f4:H wr=none) (f5:H tr=none) (n2:wl≠wr) (n3:wl≠tr) (n4:tl≠wr) (n5:tl≠tr) (n1:wl≠tl) (n6:wr≠tr)
  (g1:H' b=some (.ins (sW K "Book") bx [("worths",.ref wl),("told",.ref tl)])) (g2:H' wl=some (.lst (ws.map vI))) (g3:H' tl=some (.lst [])) (g4:H' wr=some (.lst (ws.map vI))) (g5:H' tr=some (.lst []))
  (k1:H' d=some (.dK (qp ks (fun i=>.ref (B i).b)++[(.inr (cR i),.ref b)]))) (k2:H' Nn=some (.lst ((ks.map cR).map V.str++[.str (cR i)]))) (k3:H' Rd=some (.dK (qp (jV rs i) fun k=>if k=i then .ref wr else .ref (B k).wr))) (k4:H' Td=some (.dK (qp (jV rs i) fun k=>if k=i then .ref tr else .ref (B k).tr)))
  (g:∀ c o,H c=some o→c≠d→c≠Nn→c≠Rd→c≠Td→H' c=some o) :
  ∃ rZ,HP K rZ H' (t+1) h dx d Nn Rd Td (J0 B i ⟨b,bx,wl,tl,wr,tr,ws,[]⟩) (ks++[i]) (jV rs i)∧∀ c o,H c=some o→rZ c=bB c:=by
 have l0:=a.lh;have l1:=a.ld;have l2:=a.lN;have l3:=a.lR;have l4:=a.lT
 have g':∀ c o,H c=some o→bB c / 10≠5→H' c=some o:=fun c o e n=>g c o e (aV (bB:=bB) (by omega)) (aV (bB:=bB) (by omega)) (aV (bB:=bB) (by omega)) (aV (bB:=bB) (by omega))
 have f:∀ c o,H c=some o→(if c=wl then 10*(i+1)+1 else if c=tl then 10*(i+1)+2 else if c=wr then 10*(i+1)+3 else if c=tr then 10*(i+1)+4 else bB c)=bB c:=fun c o e=>by
  rw [if_neg (ne_of_none e f2),if_neg (ne_of_none e f3),if_neg (ne_of_none e f4),if_neg (ne_of_none e f5)]
 have d1:b≠wl:=fun e=>by rw [e,g2] at g1;cases g1
 have d2:b≠tl:=fun e=>by rw [e,g3] at g1;cases g1
 have d3:b≠wr:=fun e=>by rw [e,g4] at g1;cases g1
 have d4:b≠tr:=fun e=>by rw [e,g5] at g1;cases g1
 have hA:∀ k,k∈jV rs i ↔ k∈rs∨k=i:=fun k=>by
  unfold jV
  by_cases y:i∈rs
  ·rw [if_pos y];exact ⟨.inl,fun z=>z.elim id fun z=>z ▸ y⟩
  ·rw [if_neg y,List.mem_append,List.mem_singleton]
 have q:∀ (F:BX→Addr),(fun k=>if k=i then V.ref (F ⟨b,bx,wl,tl,wr,tr,ws,[]⟩) else V.ref (F (B k)))=fun k=>V.ref (F (J0 B i ⟨b,bx,wl,tl,wr,tr,ws,[]⟩ k)):=fun F=>by
  funext k
  by_cases z:k=i
  ·rw [if_pos z,z,pC]
  ·rw [if_neg z,wZ z]
 refine ⟨fun c=>if c=wl then 10*(i+1)+1 else if c=tl then 10*(i+1)+2 else if c=wr then 10*(i+1)+3 else if c=tr then 10*(i+1)+4 else bB c,⟨g' _ _ a.hh (by omega),(f _ _ a.hh).trans a.lh,?_,(f _ _ a.hd).trans a.ld,by rw [List.map_append,List.map_append];exact k2,(f _ _ a.hN).trans a.lN,?_,(f _ _ a.hR).trans a.lR,?_,(f _ _ a.hT).trans a.lT,fun k hk=>?_,?_,?_,fun k hk=>?_,fun k hk=>?_,fun c e=>?_⟩,f⟩
 ·rw [k1]
  unfold qp
  rw [List.map_append]
  congr 3
  ·refine List.map_congr_left fun k hk=>?_
   show _=(Sum.inr (cR k),V.ref (J0 B i _ k).b)
   rw [wZ (fun z:k=i=>hi (z ▸ hk))]
  ·show _=[(Sum.inr (cR i),V.ref (J0 B i _ i).b)]
   rw [pC]
 ·rw [k3,←q (fun x=>x.wr)]
 ·rw [k4,←q (fun x=>x.tr)]
 ·rcases List.mem_append.mp hk with z | z
  ·have zi:k≠i:=fun y=>hi (y ▸ z)
   rw [wZ zi]
   exact (a.bk k z).fr (Nat.le_succ _) f fun c o e l=>g' _ _ e (by have:=a.k3 k z;omega)
  ·obtain rfl:=List.mem_singleton.mp z
   rw [pC]
   refine ⟨g1,?_,g2,?_,g3,?_,g4,?_,g5,?_,hb,Nat.zero_le _,fun e he=>nomatch he⟩
   ·show (if b=wl then _ else _)=0
    rw [if_neg d1,if_neg d2,if_neg d3,if_neg d4];exact a.Zj _ f1
   ·show (if wl=wl then _ else _)=_
    rw [if_pos rfl]
   ·show (if tl=wl then _ else _)=_
    rw [if_neg (Ne.symm n1),if_pos rfl]
   ·show (if wr=wl then _ else _)=_
    rw [if_neg (Ne.symm n2),if_neg (Ne.symm n4),if_pos rfl]
   ·show (if tr=wl then _ else _)=_
    rw [if_neg (Ne.symm n3),if_neg (Ne.symm n5),if_neg (Ne.symm n6),if_pos rfl]
 ·exact List.nodup_append.mpr ⟨a.nk,by simp,fun x hx y hy z=>hi (by rw [List.mem_singleton.mp hy] at z;exact z ▸ hx)⟩
 ·unfold jV
  by_cases y:i∈rs
  ·rw [if_pos y];exact a.nr
  ·rw [if_neg y];exact List.nodup_append.mpr ⟨a.nr,by simp,fun x hx y' hy z=>y (by rw [List.mem_singleton.mp hy] at z;exact z ▸ hx)⟩
 ·exact (hA k).mpr ((List.mem_append.mp hk).imp (a.kr k) List.mem_singleton.mp)
 ·exact ((hA k).mp hk).elim (a.r3 k) fun z=>z ▸ hi3
 ·have x1:c≠wl:=fun z=>by rw [z,g2] at e;cases e
  have x2:c≠tl:=fun z=>by rw [z,g3] at e;cases e
  have x3:c≠wr:=fun z=>by rw [z,g4] at e;cases e
  have x4:c≠tr:=fun z=>by rw [z,g5] at e;cases e
  show (if c=wl then _ else _)=0
  rw [if_neg x1,if_neg x2,if_neg x3,if_neg x4]
  cases y:H c with
  | none=>exact a.Zj c y
  | some o =>
   have y1:c≠d:=fun z=>by rw [z,k1] at e;cases e
   have y2:c≠Nn:=fun z=>by rw [z,k2] at e;cases e
   have y3:c≠Rd:=fun z=>by rw [z,k3] at e;cases e
   have y4:c≠Td:=fun z=>by rw [z,k4] at e;cases e
   rw [g c o y y1 y2 y3 y4] at e;cases e
end
end My
namespace My
open PySem PySem.Spec PyProof.Rows L2
theorem HP.first {K:PySem.W.Frag} {H0 H:Hp} {h dx d Nn Rd Td b bx wl tl wr tr:Addr} {ws:List Nat} (hb:Bk ws) (hh:H h=some (.ins (sW K "House") dx [("books",.ref d)])) (hd:H d=some (.dK [(.inr (cR 1),.ref b)])) (hN:H Nn=some (.lst [.str (cR 1)])) (hR:H Rd=some (.dK [(.inr (cR 1),.ref wr)])) (hT:H Td=some (.dK [(.inr (cR 1),.ref tr)]))
  (g1:H b=some (.ins (sW K "Book") bx [("worths",.ref wl),("told",.ref tl)])) (g2:H wl=some (.lst (ws.map vI))) (g3:H tl=some (.lst [])) (g4:H wr=some (.lst (ws.map vI))) (g5:H tr=some (.lst []))
  (a1:Rd≠d) (a2:Td≠d) (a3:Td≠Rd) (b1:wl≠Nn) (b2:tl≠Nn) (b3:wr≠Nn) (b4:tr≠Nn) (c1:tl≠wl) (c2:wr≠wl) (c3:tr≠wl) (c4:wr≠tl) (c5:tr≠tl) (c6:tr≠wr)
  (f1:H0 d=none) (f2:H0 Nn=none) (f3:H0 Rd=none) (f4:H0 Td=none) (f5:H0 wl=none) (f6:H0 tl=none) (f7:H0 wr=none) (f8:H0 tr=none) (s:Same H0 H) :
  ∃ bB,HP K bB H 0 h dx d Nn Rd Td (fun _=>⟨b,bx,wl,tl,wr,tr,ws,[]⟩) [1] [1]∧Old H0 bB H:=by
 have ld:∀ {x y:Addr} {l:List V} {kv:List (Key×V)},H x=some (.lst l)→H y=some (.dK kv)→x≠y:=fun e1 e2 z=>by rw [z,e2] at e1;cases e1
 have dl:∀ {x y:Addr} {l:List V} {kv:List (Key×V)},H x=some (.lst l)→H y=some (.dK kv)→y≠x:=fun e1 e2 z=>by rw [z,e1] at e2;cases e2
 have il:∀ {x y:Addr} {l:List V} {C dx:Addr} {fs:List (Str×V)},H x=some (.ins C dx fs)→H y=some (.lst l)→x≠y:=fun e1 e2 z=>by rw [z,e2] at e1;cases e1
 have id':∀ {x y:Addr} {kv:List (Key×V)} {C dx:Addr} {fs:List (Str×V)},H x=some (.ins C dx fs)→H y=some (.dK kv)→x≠y:=fun e1 e2 z=>by rw [z,e2] at e1;cases e1
 have z0:∀ c,c≠d→c≠Nn→c≠Rd→c≠Td→c≠wl→c≠tl→c≠wr→c≠tr→(if c=d then 51 else if c=Nn then 52 else if c=Rd then 53 else if c=Td then 54 else if c=wl then 21 else if c=tl then 22 else if c=wr then 23 else if c=tr then 24 else 0)=0:=fun c x1 x2 x3 x4 x5 x6 x7 x8=>by
  rw [if_neg x1,if_neg x2,if_neg x3,if_neg x4,if_neg x5,if_neg x6,if_neg x7,if_neg x8]
 refine ⟨fun c=>if c=d then 51 else if c=Nn then 52 else if c=Rd then 53 else if c=Td then 54 else if c=wl then 21 else if c=tl then 22 else if c=wr then 23 else if c=tr then 24 else 0,⟨hh,z0 _ (id' hh hd) (il hh hN) (id' hh hR) (id' hh hT) (il hh g2) (il hh g3) (il hh g4) (il hh g5),hd,if_pos rfl,hN,(if_neg (ld hN hd)).trans (if_pos rfl),hR,?_,hT,?_,fun i hi=>?_,by simp,by simp,fun i hi=>hi,fun i hi=>by rw [List.mem_singleton.mp hi];decide,fun c e=>?_⟩,fun c o e=>⟨z0 c (ne_of_none e f1) (ne_of_none e f2) (ne_of_none e f3) (ne_of_none e f4) (ne_of_none e f5) (ne_of_none e f6) (ne_of_none e f7) (ne_of_none e f8),s _ _ e⟩⟩
 ·show (if Rd=d then _ else _)=53
  rw [if_neg a1,if_neg (dl hN hR),if_pos rfl]
 ·show (if Td=d then _ else _)=54
  rw [if_neg a2,if_neg (dl hN hT),if_neg a3,if_pos rfl]
 ·obtain rfl:=List.mem_singleton.mp hi
  refine ⟨g1,z0 _ (id' g1 hd) (il g1 hN) (id' g1 hR) (id' g1 hT) (il g1 g2) (il g1 g3) (il g1 g4) (il g1 g5),g2,?_,g3,?_,g4,?_,g5,?_,hb,Nat.le_refl _,fun e he=>nomatch he⟩
  ·show (if wl=d then _ else _)=21
   rw [if_neg (ld g2 hd),if_neg b1,if_neg (ld g2 hR),if_neg (ld g2 hT),if_pos rfl]
  ·show (if tl=d then _ else _)=22
   rw [if_neg (ld g3 hd),if_neg b2,if_neg (ld g3 hR),if_neg (ld g3 hT),if_neg c1,if_pos rfl]
  ·show (if wr=d then _ else _)=23
   rw [if_neg (ld g4 hd),if_neg b3,if_neg (ld g4 hR),if_neg (ld g4 hT),if_neg c2,if_neg c4,if_pos rfl]
  ·show (if tr=d then _ else _)=24
   rw [if_neg (ld g5 hd),if_neg b4,if_neg (ld g5 hR),if_neg (ld g5 hT),if_neg c3,if_neg c5,if_neg c6,if_pos rfl]
 ·have no:∀ {x:Addr} {o:HO},H x=some o→c≠x:=fun e2 z=>by rw [z,e2] at e;cases e
  exact z0 c (no hd) (no hN) (no hR) (no hT) (no g2) (no g3) (no g4) (no g5)
theorem J1 {κ:Type} [DecidableEq κ] {k:κ} {v:V}:∀ {kvs:List (κ×V)},valV kvs k=none→valV (kvs++[(k,v)]) k=some v
 | [],_=>valV_pos rfl
 | p::r,h=>by
  by_cases e:p.1=k
  ·rw [valV_pos e] at h;cases h
  ·rw [valV_neg e] at h
   rw [List.cons_append,valV_neg e]
   exact J1 h
theorem Wa (ns:List Int):∃ zs:List Int,oW (ns.map V.int) (some 4) (some 28)=zs.map V.int∧zs.length≤24:=by
 unfold oW
 rw [show (4:Int)=((4:Nat):Int) from rfl,show (28:Int)=((28:Nat):Int) from rfl,HT.mJ,HT.mJ]
 exact ⟨(ns.drop _).take _,by rw [List.map_take,List.map_drop],by rw [List.length_take,List.length_map];omega⟩
theorem HP.kp {K:PySem.W.Frag} {bB:Addr→Nat} {H:Hp} {t:Nat} {h dx d Nn Rd Td:Addr} {B:Nat→BX} {ks rs:List Nat} (a:HP K bB H t h dx d Nn Rd Td B ks rs) {j:Nat} (hj:j∈ks):Kp K H h (cR j) (B j).ws :=
 ⟨dx,d,(B j).b,(B j).bx,(B j).wl,(B j).tl,_,a.hh,a.hd,by rw [gW (by have:=a.k3 j hj;omega) (fun i hi=>by have:=a.k3 i hi;omega),if_pos hj],(a.bk j hj).hb,(a.bk j hj).hwl⟩
end My
namespace SR
open PySem PyProof.Rows
def Yk:Bool→Keyed→Array Keyed→Nat→Nat→Nat→StateT SortSt Sem (Option Nat):=sortPriv% PySem.Builtin.gallop
def Wb:Array Keyed→Array Keyed→StateT SortSt Sem (Array Keyed):=sortPriv% PySem.Builtin.mergeLo
def Wc:Array Keyed→Array Keyed→StateT SortSt Sem (Array Keyed):=sortPriv% PySem.Builtin.mergeHi
section
variable {prog:Program} {w:World} {A:Around} {E:Value→Shared→Prop} {s:Shared} {k:Keyed→Int} {ok:Keyed→Prop}
def zc (prog:Program) (w:World) (A:Around) (E:Value→Shared→Prop) (s:Shared) (k:Keyed→Int) (ok:Keyed→Prop):Prop :=
 ∀ (x y:Keyed) (st:SortSt) (Q:Option Bool→SortSt→Prop),ok x→ok y→kindOf st=oneType'→Q (some (decide (k x<k y))) st→wpS (model prog w) A E s (lt' x y) Q st
theorem bN {xs:Array Keyed} {i:Nat} {x:Keyed} {st:SortSt} {Q:Keyed→SortSt→Prop} (h:xs[i]? = some x) (q:Q x st):wpS (model prog w) A E s (elem' xs i) Q st:=by
 rw [elem'_eq,h]
 exact wpS_pure q
def pQ (k:Keyed→Int) (left:Bool) (key x:Keyed):Bool:=if left then decide (k x<k key) else !decide (k key<k x)
theorem aaE (hL:zc prog w A E s k ok) {left:Bool} {key x:Keyed} {arr:Array Keyed} {i:Nat} {st:SortSt} {Q:Option Bool→SortSt→Prop} (hx:arr[i]? = some x) (o1:ok x) (o2:ok key) (hk:kindOf st=oneType') (q:Q (some (pQ k left key x)) st) :
  wpS (model prog w) A E s (do
   let y ←elem' arr i
   if left=true then lt' y key else do
    let r ←lt' key y
    pure (Option.map (fun z=>!z) r)) Q st:=by
 refine wpS_bind (bN hx ?_)
 cases left with
 | true =>
  rw [if_pos rfl]
  exact hL _ _ _ _ o1 o2 hk q
 | false =>
  rw [if_neg (by decide)]
  exact wpS_bind (hL _ _ _ _ o2 o1 hk (wpS_pure q))
structure Str (k:Keyed→Int) (ok:Keyed→Prop) (left:Bool) (key:Keyed) (arr:Array Keyed) (base n:Nat) (b:Nat→Bool):Prop where
 at_:∀ i,i<n→∃ x,arr[base+i]? = some x∧ok x∧pQ k left key x=b i
 mono:∀ i j,i≤j→j<n→b j=true→b i=true
theorem kO (hL:zc prog w A E s k ok) {left:Bool} {key:Keyed} {arr:Array Keyed} {base n hint:Nat} {b:Nat→Bool} {st:SortSt} {Q:Option Nat→SortSt→Prop} (o2:ok key) (hk:kindOf st=oneType') (S:Str k ok left key arr base n b) (hh:hint<n)
  (q:∀ m,m≤n→(∀ i,i<m→b i=true)→(∀ i,m≤i→i<n→b i=false)→Q (some m) st):wpS (model prog w) A E s (Yk left key arr base n hint) Q st:=by
 have ask:∀ (i:Nat) (Q:Option Bool→SortSt→Prop),i<n→Q (some (b i)) st→wpS (model prog w) A E s (do
   let y ←elem' arr (base+i)
   if left=true then lt' y key else do
    let r ←lt' key y
    pure (Option.map (fun z=>!z) r)) Q st:=fun i Q hi q=>by
  obtain ⟨x,h1,h2,h3⟩:=S.at_ i hi
  exact aaE hL h1 h2 o2 hk (by rw [h3];exact q)
 refine wpS_bind (ask hint _ hh ?_)
 cases hb:b hint with
 | true =>
  dsimp only
  rw [if_pos rfl]
  refine wpS_bind (wpS_mono (wpS_forRange (I:=fun x c st'=>st' = st∧∃ l o,c=(none,l,o)∧l<o∧x+1≤o∧hint+l<n∧b (hint+l)=true)
   (Q:=fun c st'=>st' = st∧∃ l o,c=(none,l,o)∧l<o∧hint+l<n∧b (hint+l)=true∧(hint+o<n→b (hint+o)=false)) ?_ ?_ ⟨rfl,0,1,rfl,by omega,by omega,hh,hb⟩) ?_)
  ·rintro x c st' _ hx ⟨rfl,l,o,rfl,g1,g2,g3,g4⟩
   dsimp only
   by_cases e:o ≥ n - hint
   ·rw [if_pos e]
    exact wpS_pure ⟨rfl,l,o,rfl,g1,g3,g4,fun z=>by omega⟩
   ·rw [if_neg e]
    refine wpS_bind (ask (hint+o) _ (by omega) ?_)
    cases hb2:b (hint+o) with
    | true=>exact wpS_pure ⟨rfl,o,2*o+1,rfl,by omega,by omega,by omega,hb2⟩
    | false=>exact wpS_pure ⟨rfl,l,o,rfl,g1,g3,g4,fun _=>hb2⟩
  ·rintro c st' ⟨rfl,l,o,rfl,g1,g2,g3,g4⟩
   exact ⟨rfl,l,o,rfl,g1,g3,g4,fun z=>by omega⟩
  ·rintro c st' ⟨rfl,l,o,rfl,g1,g3,g4,g5⟩
   dsimp only
   have B1:hint+l+1≤hint+min o (n - hint):=by omega
   have B2:hint+min o (n - hint)≤n:=by omega
   have B3:∀ i,i<hint+l+1→b i=true:=fun i hi=>S.mono i (hint+l) (by omega) g3 g4
   have B4:∀ i,hint+min o (n - hint)≤i→i<n→b i=false:=fun i hi hn=>by
    by_cases e:o<n - hint
    ·have h5:=g5 (by omega)
     cases hb2:b i with
     | false=>rfl
     | true=>rw [S.mono (hint+o) i (by omega) hn hb2] at h5;cases h5
    ·omega
   refine wpS_bind (wpS_mono (wpS_forRange (I:=fun x c st''=>st'' = st'∧∃ l h,c=(none,l,h)∧l≤h∧h≤n∧h - l≤n - x∧(∀ i,i<l→b i=true)∧∀ i,h≤i→i<n→b i=false)
    (Q:=fun c st''=>st'' = st'∧∃ h,c=(none,h,h)∧h≤n∧(∀ i,i<h→b i=true)∧∀ i,h≤i→i<n→b i=false) ?_ ?_ ⟨rfl,hint+l+1,hint+min o (n - hint),rfl,B1,B2,by omega,B3,B4⟩) ?_)
   ·rintro x c st'' _ hx ⟨rfl,l,h,rfl,g1,g2,g3,g4,g5⟩
    dsimp only
    by_cases e:l ≥ h
    ·rw [if_pos e]
     have:l=h:=by omega
     subst this
     exact wpS_pure ⟨rfl,l,rfl,g2,g4,g5⟩
    ·rw [if_neg e]
     refine wpS_bind (ask _ _ (by omega) ?_)
     cases hb:b (l+(h - l) / 2) with
     | true =>
      exact wpS_pure ⟨rfl,_,_,rfl,by omega,g2,by omega,fun i hi=>S.mono i _ (by omega) (by omega) hb,g5⟩
     | false =>
      refine wpS_pure ⟨rfl,_,_,rfl,by omega,by omega,by omega,g4,fun i hi hn=>?_⟩
      cases hb2:b i with
      | false=>rfl
      | true=>rw [S.mono _ i hi hn hb2] at hb;cases hb
   ·rintro c st'' ⟨rfl,l,h,rfl,g1,g2,g3,g4,g5⟩
    have:l=h:=by omega
    subst this
    exact ⟨rfl,l,rfl,g2,g4,g5⟩
   ·rintro c st'' ⟨rfl,h,rfl,g2,g4,g5⟩
    exact wpS_pure (q h g2 g4 g5)
 | false =>
  dsimp only
  rw [if_neg (by decide)]
  refine wpS_bind (wpS_mono (wpS_forRange (I:=fun x c st'=>st' = st∧∃ l o,c=(none,l,o)∧l<o∧x+1≤o∧l≤hint∧b (hint - l)=false)
   (Q:=fun c st'=>st' = st∧∃ l o,c=(none,l,o)∧l<o∧l≤hint∧b (hint - l)=false∧(o≤hint→b (hint - o)=true)) ?_ ?_ ⟨rfl,0,1,rfl,by omega,by omega,by omega,hb⟩) ?_)
  ·rintro x c st' _ hx ⟨rfl,l,o,rfl,g1,g2,g3,g4⟩
   dsimp only
   by_cases e:o ≥ hint+1
   ·rw [if_pos e]
    exact wpS_pure ⟨rfl,l,o,rfl,g1,g3,g4,fun z=>by omega⟩
   ·rw [if_neg e]
    refine wpS_bind (ask (hint - o) _ (by omega) ?_)
    cases hb2:b (hint - o) with
    | true=>exact wpS_pure ⟨rfl,l,o,rfl,g1,g3,g4,fun _=>hb2⟩
    | false=>exact wpS_pure ⟨rfl,o,2*o+1,rfl,by omega,by omega,by omega,hb2⟩
  ·rintro c st' ⟨rfl,l,o,rfl,g1,g2,g3,g4⟩
   exact ⟨rfl,l,o,rfl,g1,g3,g4,fun z=>by omega⟩
  ·rintro c st' ⟨rfl,l,o,rfl,g1,g3,g4,g5⟩
   dsimp only
   have B1:hint+1 - min o (hint+1)≤hint - l:=by omega
   have B2:hint - l≤n:=by omega
   have B3:∀ i,i<hint+1 - min o (hint+1)→b i=true:=fun i hi=>by
    by_cases e:o≤hint
    ·exact S.mono i (hint - o) (by omega) (by omega) (g5 e)
    ·omega
   have B4:∀ i,hint - l≤i→i<n→b i=false:=fun i hi hn=>by
    cases hb2:b i with
    | false=>rfl
    | true=>rw [S.mono (hint - l) i (by omega) hn hb2] at g4;cases g4
   refine wpS_bind (wpS_mono (wpS_forRange (I:=fun x c st''=>st'' = st'∧∃ l h,c=(none,l,h)∧l≤h∧h≤n∧h - l≤n - x∧(∀ i,i<l→b i=true)∧∀ i,h≤i→i<n→b i=false)
    (Q:=fun c st''=>st'' = st'∧∃ h,c=(none,h,h)∧h≤n∧(∀ i,i<h→b i=true)∧∀ i,h≤i→i<n→b i=false) ?_ ?_ ⟨rfl,hint+1 - min o (hint+1),hint - l,rfl,B1,B2,by omega,B3,B4⟩) ?_)
   ·rintro x c st'' _ hx ⟨rfl,l,h,rfl,g1,g2,g3,g4,g5⟩
    dsimp only
    by_cases e:l ≥ h
    ·rw [if_pos e]
     have:l=h:=by omega
     subst this
     exact wpS_pure ⟨rfl,l,rfl,g2,g4,g5⟩
    ·rw [if_neg e]
     refine wpS_bind (ask _ _ (by omega) ?_)
     cases hb:b (l+(h - l) / 2) with
     | true =>
      exact wpS_pure ⟨rfl,_,_,rfl,by omega,g2,by omega,fun i hi=>S.mono i _ (by omega) (by omega) hb,g5⟩
     | false =>
      refine wpS_pure ⟨rfl,_,_,rfl,by omega,by omega,by omega,g4,fun i hi hn=>?_⟩
      cases hb2:b i with
      | false=>rfl
      | true=>rw [S.mono _ i hi hn hb2] at hb;cases hb
   ·rintro c st'' ⟨rfl,l,h,rfl,g1,g2,g3,g4,g5⟩
    have:l=h:=by omega
    subst this
    exact ⟨rfl,l,rfl,g2,g4,g5⟩
   ·rintro c st'' ⟨rfl,h,rfl,g2,g4,g5⟩
    exact wpS_pure (q h g2 g4 g5)
end
end SR
namespace SR
open PySem PyProof.Rows
def iJ (k:Keyed→Int) (l:List Keyed):Prop:=l.Pairwise fun x y=>k x<k y
structure Good (k:Keyed→Int) (la lb res:List Keyed):Prop where
 pm:res.Perm (la++lb)
 st:iJ k res
structure MI (k:Keyed→Int) (la lb out:List Keyed) (ia ib:Nat):Prop where
 ha:ia≤la.length
 hb:ib≤lb.length
 pm:out.Perm (la.take ia++lb.take ib)
 st:iJ k out
 oa:∀ x∈out,∀ y∈la.drop ia,k x<k y
 ob:∀ x∈out,∀ y∈lb.drop ib,k x<k y
section
variable {k:Keyed→Int} {la lb out:List Keyed} {ia ib m:Nat} {x:Keyed}
theorem zX {l:List Keyed} {i j:Nat} {y:Keyed} (h:y∈l.drop j) (hij:i≤j):y∈l.drop i:=by
 have:l.drop j=(l.drop i).drop (j - i):=by rw [List.drop_drop];congr 1;omega
 rw [this] at h
 exact List.mem_of_mem_drop h
theorem J2 (l:List Keyed) (i m:Nat):l.take (i+m)=l.take i++(l.drop i).take m:=List.take_add
theorem MI.Wd (h:MI k la lb out ia ib) (sa:iJ k la) (hm:ia+m≤la.length) (hlt:∀ x∈(la.drop ia).take m,∀ y∈lb.drop ib,k x<k y):MI k la lb (out++(la.drop ia).take m) (ia+m) ib where
 ha:=hm
 hb:=h.hb
 pm:=by
  rw [J2,List.append_assoc]
  refine (h.pm.append_right _).trans ?_
  rw [List.append_assoc]
  exact List.Perm.append_left _ List.perm_append_comm
 st:=by
  have s1:iJ k ((la.drop ia).take m):=(sa.sublist ((List.take_sublist _ _).trans (List.drop_sublist _ _)))
  exact List.pairwise_append.mpr ⟨h.st,s1,fun x hx y hy=>h.oa x hx y (List.mem_of_mem_take hy)⟩
 oa:=fun x hx y hy=>by
  rcases List.mem_append.mp hx with z | z
  ·exact h.oa x z y (zX hy (by omega))
  ·have e:la.drop ia=(la.drop ia).take m++la.drop (ia+m):=by
    conv=>lhs;rw [←List.take_append_drop m (la.drop ia),List.drop_drop]
   have s2:iJ k (la.drop ia):=sa.sublist (List.drop_sublist _ _)
   rw [e] at s2
   exact (List.pairwise_append.mp s2).2.2 x z y hy
 ob:=fun x hx y hy=>by
  rcases List.mem_append.mp hx with z | z
  ·exact h.ob x z y hy
  ·exact hlt x z y hy
theorem MI.Wf (h:MI k la lb out ia ib) (sb:iJ k lb) (hm:ib+m≤lb.length) (hlt:∀ x∈(lb.drop ib).take m,∀ y∈la.drop ia,k x<k y):MI k la lb (out++(lb.drop ib).take m) ia (ib+m) where
 ha:=h.ha
 hb:=hm
 pm:=by
  rw [J2,←List.append_assoc]
  exact h.pm.append_right _
 st:=by
  have s1:iJ k ((lb.drop ib).take m):=(sb.sublist ((List.take_sublist _ _).trans (List.drop_sublist _ _)))
  exact List.pairwise_append.mpr ⟨h.st,s1,fun x hx y hy=>h.ob x hx y (List.mem_of_mem_take hy)⟩
 oa:=fun x hx y hy=>by
  rcases List.mem_append.mp hx with z | z
  ·exact h.oa x z y hy
  ·exact hlt x z y hy
 ob:=fun x hx y hy=>by
  rcases List.mem_append.mp hx with z | z
  ·exact h.ob x z y (zX hy (by omega))
  ·have e:lb.drop ib=(lb.drop ib).take m++lb.drop (ib+m):=by
    conv=>lhs;rw [←List.take_append_drop m (lb.drop ib),List.drop_drop]
   have s2:iJ k (lb.drop ib):=sb.sublist (List.drop_sublist _ _)
   rw [e] at s2
   exact (List.pairwise_append.mp s2).2.2 x z y hy
theorem xg {l:List Keyed} {i:Nat} {x:Keyed} (hx:l[i]? = some x):(l.drop i).take 1=[x]:=by
 obtain ⟨h,e⟩:=List.getElem?_eq_some_iff.mp hx
 rw [List.drop_eq_getElem_cons h,e]
 rfl
theorem MI.GC (h:MI k la lb out ia ib) (sa:iJ k la) (hx:la[ia]? = some x) (hlt:∀ y∈lb.drop ib,k x<k y):MI k la lb (out++[x]) (ia+1) ib:=by
 have:=h.Wd (m:=1) sa (by have:=(List.getElem?_eq_some_iff.mp hx).1;omega) (by
  rw [xg hx];intro z hz;rw [List.mem_singleton.mp hz];exact hlt)
 rw [xg hx] at this
 exact this
theorem MI.J3 (h:MI k la lb out ia ib) (sb:iJ k lb) (hx:lb[ib]? = some x) (hlt:∀ y∈la.drop ia,k x<k y):MI k la lb (out++[x]) ia (ib+1):=by
 have:=h.Wf (m:=1) sb (by have:=(List.getElem?_eq_some_iff.mp hx).1;omega) (by
  rw [xg hx];intro z hz;rw [List.mem_singleton.mp hz];exact hlt)
 rw [xg hx] at this
 exact this
theorem MI.fin (h:MI k la lb out ia ib) (sa:iJ k la) (sb:iJ k lb) {r:List Keyed} (hr:r.Perm (la.drop ia++lb.drop ib)) (sr:iJ k r):Good k la lb (out++r) where
 pm:=by
  refine (h.pm.append hr).trans ?_
  have e1:(la.take ia++lb.take ib++(la.drop ia++lb.drop ib)).Perm ((la.take ia++la.drop ia)++(lb.take ib++lb.drop ib)):=by
   rw [List.append_assoc,List.append_assoc]
   refine List.Perm.append_left _ ?_
   rw [←List.append_assoc,←List.append_assoc]
   exact List.Perm.append_right _ List.perm_append_comm
  rw [List.take_append_drop,List.take_append_drop] at e1
  exact e1
 st:=List.pairwise_append.mpr ⟨h.st,sr,fun x hx y hy=>by
  rcases List.mem_append.mp (hr.mem_iff.mp hy) with z | z
  ·exact h.oa x hx y z
  ·exact h.ob x hx y z⟩
theorem MI.done (h:MI k la lb out ia ib) (sa:iJ k la) (sb:iJ k lb) (e:ib=lb.length∨ia=la.length):Good k la lb (out++la.drop ia++lb.drop ib):=by
 rw [List.append_assoc]
 refine h.fin sa sb (List.Perm.refl _) ?_
 rcases e with rfl | rfl
 ·rw [List.drop_length,List.append_nil];exact sa.sublist (List.drop_sublist _ _)
 ·rw [List.drop_length,List.nil_append];exact sb.sublist (List.drop_sublist _ _)
theorem MI.abX (h:MI k la lb out ia ib) (sa:iJ k la) (sb:iJ k lb) (hl:∀ x,la[la.length - 1]? = some x→∀ y∈lb,k y<k x) (e:ia+1=la.length):Good k la lb (out++lb.drop ib++la.drop ia):=by
 rw [List.append_assoc]
 refine h.fin sa sb List.perm_append_comm ?_
 refine List.pairwise_append.mpr ⟨sb.sublist (List.drop_sublist _ _),sa.sublist (List.drop_sublist _ _),fun y hy x hx=>?_⟩
 have hlen:ia<la.length:=by omega
 rw [List.drop_eq_getElem_cons hlen,show ia+1=la.length from e,List.drop_length,List.mem_singleton] at hx
 subst hx
 refine hl _ ?_ y (List.mem_of_mem_drop hy)
 rw [show la.length - 1=ia by omega,List.getElem?_eq_getElem hlen]
theorem tE {l:List Keyed} (h:iJ k l) {i j:Nat} {x y:Keyed} (hi:l[i]? = some x) (hj:l[j]? = some y) (hij:i<j):k x<k y:=by
 obtain ⟨h1,e1⟩:=List.getElem?_eq_some_iff.mp hi
 obtain ⟨h2,e2⟩:=List.getElem?_eq_some_iff.mp hj
 rw [←e1,←e2]
 exact List.pairwise_iff_getElem.mp h i j h1 h2 hij
theorem tG {l:List Keyed} {i:Nat} {y:Keyed} (h:y∈l.drop i):∃ j,i≤j∧l[j]? = some y:=by
 obtain ⟨j,hj⟩:=List.mem_iff_getElem?.mp h
 rw [List.getElem?_drop] at hj
 exact ⟨i+j,by omega,hj⟩
theorem Cw {l:List Keyed} {i m:Nat} {y:Keyed} (h:y∈(l.drop i).take m):∃ j,j<m∧l[i+j]? = some y:=by
 obtain ⟨j,hj⟩:=List.mem_iff_getElem?.mp h
 rw [List.getElem?_take] at hj
 split at hj
 ·rename_i hlt
  rw [List.getElem?_drop] at hj
  exact ⟨j,hlt,hj⟩
 ·cases hj
theorem uM {l:List Keyed} (h:iJ k l) {i:Nat} {x y:Keyed} {c:Int} (hi:l[i]? = some x) (hc:c<k x) (hy:y∈l.drop i):c<k y:=by
 obtain ⟨j,hj,e⟩:=tG hy
 by_cases z:i=j
 ·subst z;rw [hi] at e;cases e;exact hc
 ·have:=tE h hi e (by omega);omega
end
end SR
namespace SR
open PySem PyProof.Rows
theorem J4 (a:Array Keyed) (i:Nat):(a.extract i a.size).toList=a.toList.drop i:=by
 rw [Array.toList_extract,List.extract_eq_take_drop,←Array.length_toList,List.take_of_length_le (by rw [List.length_drop];exact Nat.le_refl _)]
theorem QL (a:Array Keyed) (i m:Nat):(a.extract i (i+m)).toList=(a.toList.drop i).take m:=by
 rw [Array.toList_extract,List.extract_eq_take_drop,Nat.add_sub_cancel_left]
theorem J5 (out a b:Array Keyed) (i j:Nat):(out++a.extract i a.size++b.extract j b.size).toList=out.toList++a.toList.drop i++b.toList.drop j:=by
 rw [Array.toList_append,Array.toList_append,J4,J4]
theorem xq (out:Array Keyed) (x:Keyed):(out.push x).toList=out.toList++[x]:=Array.toList_push
theorem QM (out a:Array Keyed) (i m:Nat):(out++a.extract i (i+m)).toList=out.toList++(a.toList.drop i).take m:=by rw [Array.toList_append,QL]
structure Alike (st st':SortSt):Prop where
 kd:kindOf st' = kindOf st
 ar:arrOf st' = arrOf st
 pd:pendingOf st' = pendingOf st
 fl:failedOf st' = failedOf st
theorem Alike.refl (st:SortSt):Alike st st:=⟨rfl,rfl,rfl,rfl⟩
theorem Alike.trans {a b c:SortSt} (h:Alike a b) (g:Alike b c):Alike a c:=⟨g.kd.trans h.kd,g.ar.trans h.ar,g.pd.trans h.pd,g.fl.trans h.fl⟩
theorem dX {a:Array Keyed} {i:Nat} (h:i<a.size):∃ x,a[i]? = some x∧a.toList[i]? = some x∧x∈a.toList:=by
 refine ⟨a[i],by simp [h],by simp [h],by simp⟩
section
variable {prog:Program} {w:World} {A:Around} {E:Value→Shared→Prop} {s:Shared} {k:Keyed→Int} {ok:Keyed→Prop}
theorem str_mk {arr:Array Keyed} {left:Bool} {key:Keyed} {base n:Nat} (sa:iJ k arr.toList) (Wg:∀ x∈arr.toList,ok x) (h:base+n≤arr.size):Str k ok left key arr base n (fun i=>(arr[base+i]?).elim false (pQ k left key)) where
 at_:=fun i hi=>by
  obtain ⟨x,h1,h2,h3⟩:=dX (a:=arr) (i:=base+i) (by omega)
  exact ⟨x,h1,Wg x h3,by rw [h1];rfl⟩
 mono:=fun i j hij hj hb=>by
  obtain ⟨x,h1,h2,h3⟩:=dX (a:=arr) (i:=base+i) (by omega)
  obtain ⟨y,g1,g2,g3⟩:=dX (a:=arr) (i:=base+j) (by omega)
  have hxy:k x≤k y:=by
   by_cases e:i=j
   ·subst e;rw [h1] at g1;cases g1;exact Int.le_refl _
   ·exact Int.le_of_lt (tE sa h2 g2 (by omega))
  rw [h1]
  rw [g1] at hb
  show pQ k left key x=true
  have hb':pQ k left key y=true:=hb
  unfold pQ at hb' ⊢
  cases left with
  | true =>
   rw [if_pos rfl] at hb' ⊢
   have:=of_decide_eq_true hb'
   exact decide_eq_true (by omega)
  | false =>
   rw [if_neg (by decide)] at hb' ⊢
   have h5:¬ k key<k y:=by simpa using hb'
   have:¬ k key<k x:=by omega
   simpa using this
def HB (k:Keyed→Int) (a b:Array Keyed) (st:SortSt) (p m:Nat) (r:ForInStep (Option (Array Keyed)×Array Keyed×Nat×Nat×Nat×Nat×Nat)) (st':SortSt):Prop:=match r with
 | .done c'=>Alike st st'∧((∃ (r out:Array Keyed) (i' j' mg ac bc:Nat),c' = (some r,out,i',j',mg,ac,bc)∧Good k a.toList b.toList r.toList)∨∃ (out:Array Keyed) (i' j' mg ac bc:Nat),c' = (none,out,i',j',mg,ac,bc)∧MI k a.toList b.toList out.toList i' j'∧i'+1<a.size∧j'<b.size∧p≤i'+j')
 | .yield c'=>∃ (out:Array Keyed) (i' j' mg ac bc:Nat),c' = (none,out,i',j',mg,ac,bc)∧MI k a.toList b.toList out.toList i' j'∧i'+1<a.size∧j'<b.size∧p+(m+1)≤i'+j'∧Alike st st'
theorem Mj (hL:zc prog w A E s k ok) {a b:Array Keyed} {st:SortSt} {Q:Array Keyed→SortSt→Prop} (hk:kindOf st=oneType') (Wg:∀ x∈a.toList,ok x) (okb:∀ x∈b.toList,ok x) (sa:iJ k a.toList) (sb:iJ k b.toList)
  (dis:∀ x∈a.toList,∀ y∈b.toList,k x≠k y) (na:0<a.size) (nb:0<b.size) (h0:∀ x y,a.toList[0]? = some x→b.toList[0]? = some y→k y<k x) (hl:∀ x,a.toList[a.toList.length - 1]? = some x→∀ y∈b.toList,k y<k x)
  (q:∀ r st',Good k a.toList b.toList r.toList→Alike st st'→Q r st'):wpS (model prog w) A E s (Wb a b) Q st:=by
 have hla:a.toList.length=a.size:=Array.length_toList
 have hlb:b.toList.length=b.size:=Array.length_toList
 have vd:∀ (out:Array Keyed) (i j:Nat),MI k a.toList b.toList out.toList i j→(j=b.size∨i=a.size)→Good k a.toList b.toList (out++a.extract i a.size++b.extract j b.size).toList:=fun out i j h e=>by
  rw [J5];exact h.done sa sb (by omega)
 have Cy:∀ (out:Array Keyed) (i j:Nat),MI k a.toList b.toList out.toList i j→i+1=a.size→Good k a.toList b.toList (out++b.extract j b.size++a.extract i a.size).toList:=fun out i j h e=>by
  rw [J5];exact h.abX sa sb hl (by omega)
 obtain ⟨b0,hb0,aaF,aeV⟩:=dX nb
 have M0:MI k a.toList b.toList (#[b0]:Array Keyed).toList 0 1:=by
  refine ⟨Nat.zero_le _,by omega,?_,List.pairwise_singleton _ _,fun x hx y hy=>?_,fun x hx y hy=>?_⟩
  ·rw [List.take_zero,List.nil_append]
   have:=xg aaF
   rw [List.drop_zero] at this
   rw [this]
  ·have:x=b0:=by simpa using hx
   subst this
   obtain ⟨a0,_,ha0,_⟩:=dX na
   exact uM sa ha0 (h0 a0 x ha0 aaF) hy
  ·have:x=b0:=by simpa using hx
   subst this
   obtain ⟨j,hj,e⟩:=tG hy
   exact tE sb aaF e (by omega)
 refine wpS_bind (wpS_lift (wpAny_rule ⟨rfl,?_⟩))
 extract_lets
 refine wpS_bind (bN hb0 ?_)
 show wpS _ _ _ _ (if (1 == b.size)=true then _ else if (0+1 == a.size)=true then _ else _) _ _
 by_cases e1:1=b.size
 ·rw [if_pos (by simpa using e1)]
  exact wpS_pure (q _ _ (vd _ _ _ M0 (.inl e1)) (Alike.refl _))
 rw [if_neg (by simpa using e1)]
 by_cases e2:0+1=a.size
 ·rw [if_pos (by simpa using e2)]
  exact wpS_pure (q _ _ (Cy _ _ _ M0 e2) (Alike.refl _))
 rw [if_neg (by simpa using e2)]
 refine wpS_bind (wpS_get ?_)
 refine wpS_bind (wpS_mono (wpS_forRange (I:=fun n c st'=>∃ (out:Array Keyed) (i j mg:Nat),c=(none,out,i,j,mg)∧MI k a.toList b.toList out.toList i j∧i+1<a.size∧j<b.size∧n≤i+j∧Alike st st')
  (Q:=fun c st'=>∃ (r out:Array Keyed) (i j mg:Nat),c=(some r,out,i,j,mg)∧Good k a.toList b.toList r.toList∧Alike st st') ?_ ?_ ⟨#[b0],0,1,_,rfl,M0,by omega,by omega,by omega,Alike.refl _⟩) ?_)
 ·rintro n c st1 _ hn ⟨out,i,j,mg,rfl,M,hi,hj,aaG,al⟩
  -- one by one
  refine wpS_bind (wpS_mono (wpS_forRange (I:=fun m c st'=>∃ (out:Array Keyed) (i' j' ac bc:Nat),c=(none,out,i',j',ac,bc)∧MI k a.toList b.toList out.toList i' j'∧i'+1<a.size∧j'<b.size∧i+j+m≤i'+j'∧Alike st st')
   (Q:=fun c st'=>Alike st st'∧((∃ (r out:Array Keyed) (i' j' ac bc:Nat),c=(some r,out,i',j',ac,bc)∧Good k a.toList b.toList r.toList)∨∃ (out:Array Keyed) (i' j' ac bc:Nat),c=(none,out,i',j',ac,bc)∧MI k a.toList b.toList out.toList i' j'∧i'+1<a.size∧j'<b.size∧i+j+1≤i'+j')) ?_ ?_ ⟨out,i,j,0,0,rfl,M,hi,hj,by omega,al⟩) ?_)
  ·clear M hi hj aaG al
   rintro m c st2 _ hm ⟨out,i',j',ac,bc,rfl,M,hi,hj,hm2,al⟩
   obtain ⟨x,hx,hx',Wi⟩:=dX (show i'<a.size by omega)
   obtain ⟨y,hy,hy',Sy⟩:=dX hj
   dsimp only
   refine wpS_bind (bN hy (wpS_bind (bN hx (wpS_bind (hL _ _ _ _ (okb y Sy) (Wg x Wi) (al.kd.trans hk) ?_)))))
   by_cases c1:k y<k x
   ·rw [decide_eq_true c1]
    dsimp only
    rw [if_pos rfl]
    have M2:=M.J3 sb hy' (fun z hz=>uM sa hx' c1 hz)
    rw [←xq] at M2
    refine wpS_bind (bN hy ?_)
    by_cases e3:j'+1=b.size
    ·rw [if_pos (by simpa using e3)]
     exact wpS_pure ⟨al,.inl ⟨_,_,_,_,_,_,rfl,vd _ _ _ M2 (.inl e3)⟩⟩
    ·rw [if_neg (by simpa using e3)]
     by_cases e4:bc+1 ≥ mg
     ·rw [if_pos e4]
      exact wpS_pure ⟨al,.inr ⟨_,_,_,_,_,rfl,M2,hi,by omega,by omega⟩⟩
     ·rw [if_neg e4]
      exact wpS_pure ⟨_,_,_,_,_,rfl,M2,hi,by omega,by omega,al⟩
   ·rw [decide_eq_false c1]
    dsimp only
    rw [if_neg (by decide)]
    have c2:k x<k y:=by have:=dis x Wi y Sy;omega
    have M2:=M.GC sa hx' (fun z hz=>uM sb hy' c2 hz)
    rw [←xq] at M2
    refine wpS_bind (bN hx ?_)
    by_cases e3:i'+1+1=a.size
    ·rw [if_pos (by simpa using e3)]
     exact wpS_pure ⟨al,.inl ⟨_,_,_,_,_,_,rfl,Cy _ _ _ M2 e3⟩⟩
    ·rw [if_neg (by simpa using e3)]
     by_cases e4:ac+1 ≥ mg
     ·rw [if_pos e4]
      exact wpS_pure ⟨al,.inr ⟨_,_,_,_,_,rfl,M2,by omega,hj,by omega⟩⟩
     ·rw [if_neg e4]
      exact wpS_pure ⟨_,_,_,_,_,rfl,M2,by omega,hj,by omega,al⟩
  ·rintro c st2 ⟨out,i',j',ac,bc,rfl,M,hi,hj,hm2,al⟩
   omega
  ·rintro c st2 ⟨RM,⟨r,zf,i2,j2,ac,bc,rfl,G⟩ | ⟨zf,i2,j2,ac,bc,rfl,M2,hi2,hj2,hs2⟩⟩
   ·exact wpS_pure ⟨_,_,_,_,_,rfl,G,RM⟩
   ·refine wpS_bind (wpS_lift (wpAny_rule ⟨rfl,?_⟩))
    -- in blocks
    refine wpS_bind (wpS_mono (wpS_forRange (I:=fun m c st'=>∃ (out:Array Keyed) (i' j' mg ac bc:Nat),c=(none,out,i',j',mg,ac,bc)∧MI k a.toList b.toList out.toList i' j'∧i'+1<a.size∧j'<b.size∧i+j+1+m≤i'+j'∧Alike st st')
     (Q:=fun c st'=>Alike st st'∧((∃ (r out:Array Keyed) (i' j' mg ac bc:Nat),c=(some r,out,i',j',mg,ac,bc)∧Good k a.toList b.toList r.toList)∨∃ (out:Array Keyed) (i' j' mg ac bc:Nat),c=(none,out,i',j',mg,ac,bc)∧MI k a.toList b.toList out.toList i' j'∧i'+1<a.size∧j'<b.size∧i+j+1≤i'+j')) ?_ ?_ ⟨zf,i2,j2,_,ac,bc,rfl,M2,hi2,hj2,by omega,RM⟩) ?_)
    ·clear M2 hi2 hj2 hs2 RM
     rintro m c st2 _ hm ⟨out,i',j',mg,ac,bc,rfl,M,hi,hj,hm2,al⟩
     extract_lets
     rename_i jp mgm
     have hjp:∀ mg',wpS (model prog w) A E s (jp () mg') (HB k a b st (i+j+1) m) st2:=by
      intro mg'
      refine wpS_bind (wpS_modify ?_)
      obtain ⟨y,hy,hy',Sy⟩:=dX hj
      obtain ⟨lst,_,abZ,aed⟩:=dX (a:=a) (i:=a.size - 1) (by omega)
      have Wj:∀ z∈b.toList,k z<k lst:=hl lst (by rw [hla];exact abZ)
      refine wpS_bind (bN hy (wpS_bind (kO hL (okb y Sy) (al.kd.trans hk) (str_mk (base:=i') (n:=a.size - i') sa Wg (by omega)) (show 0<a.size - i' by omega) (fun m1 hm1 hb1 hb2=>?_))))
      have hm1:m1≤a.size - i':=hm1
      have hb2:∀ t,m1≤t→t<a.size - i'→(a[i'+t]?).elim false (pQ k false y)=false:=hb2
      have below:∀ t x,t<m1→a.toList[i'+t]? = some x→k x<k y:=fun t x ht hx=>by
       have h1:=hb1 t ht
       obtain ⟨x',g1,g2,g3⟩:=dX (a:=a) (i:=i'+t) (by omega)
       rw [g2] at hx;cases hx
       rw [g1] at h1
       have h2:pQ k false y x=true:=h1
       unfold pQ at h2
       rw [if_neg (by decide)] at h2
       have h3:¬ k y<k x:=by simpa using h2
       have:=dis x g3 y Sy
       omega
      have ade:i'+m1<a.size:=by
       apply Nat.lt_of_not_le
       intro z
       have:=below (a.size - 1 - i') lst (by omega) (by rw [show i'+(a.size - 1 - i')=a.size - 1 by omega];exact abZ)
       have:=Wj y Sy
       omega
      have above:∀ z∈a.toList.drop (i'+m1),k y<k z:=fun z hz=>by
       obtain ⟨x',g1,g2,g3⟩:=dX ade
       have h1:=hb2 m1 (Nat.le_refl _) (by omega)
       rw [g1] at h1
       have h2:pQ k false y x' = false:=h1
       unfold pQ at h2
       rw [if_neg (by decide)] at h2
       have h3:k y<k x':=by simpa using h2
       exact uM sa g2 h3 hz
      have M1:=M.Wd (m:=m1) sa (by omega) (fun x hx z hz=>by
       obtain ⟨t,ht,e⟩:=Cw hx
       have:=below t x ht e
       obtain ⟨u,hu,e2⟩:=tG hz
       by_cases eu:u=j'
       ·subst eu;rw [hy'] at e2;cases e2;exact this
       ·have:=tE sb hy' e2 (by omega)
        omega)
      have Je:Alike st (SortSt.mk' (kindOf st2) (arrOf st2) (pendingOf st2) mg' (failedOf st2)):=al.trans ⟨rfl,rfl,rfl,rfl⟩
      show wpS _ _ _ _ _ (HB k a b st (i+j+1) m) (SortSt.mk' (kindOf st2) (arrOf st2) (pendingOf st2) mg' (failedOf st2))
      generalize SortSt.mk' (kindOf st2) (arrOf st2) (pendingOf st2) mg' (failedOf st2)=st3 at Je
      dsimp (config:={ zeta:=false }) only
      extract_lets
      rename_i jp2 zf ia2
      have Wk:∀ (out:Array Keyed) (ia:Nat),MI k a.toList b.toList out.toList ia j'→ia+1<a.size→i'≤ia→(∀ z∈a.toList.drop ia,k y<k z)→wpS (model prog w) A E s (jp2 () out ia) (HB k a b st (i+j+1) m) st3:=by
       intro out ia MJ hia adf hab
       refine wpS_bind (bN hy ?_)
       have M2:=MJ.J3 sb hy' hab
       rw [←xq] at M2
       obtain ⟨x,hx,hx',Wi⟩:=dX (show ia<a.size by omega)
       show wpS _ _ _ _ (if (j'+1 == b.size)=true then _ else _) _ _
       by_cases e3:j'+1=b.size
       ·rw [if_pos (by simpa using e3)]
        exact wpS_pure ⟨Je,.inl ⟨_,_,_,_,_,_,_,rfl,vd _ _ _ M2 (.inl e3)⟩⟩
       rw [if_neg (by simpa using e3)]
       refine wpS_bind (bN hx (wpS_bind (kO hL (Wg x Wi) (Je.kd.trans hk) (str_mk (base:=j'+1) (n:=b.size - (j'+1)) sb okb (by omega)) (show 0<b.size - (j'+1) by omega) (fun m2 hm2' hc1 hc2=>?_))))
       have hm2':m2≤b.size - (j'+1):=hm2'
       have hc2:∀ t,m2≤t→t<b.size - (j'+1)→(b[j'+1+t]?).elim false (pQ k true x)=false:=hc2
       have M3:=M2.Wf (m:=m2) sb (by omega) (fun z hz u hu=>by
        obtain ⟨t,ht,e⟩:=Cw hz
        have h1:=hc1 t ht
        obtain ⟨z',g1,g2,g3⟩:=dX (a:=b) (i:=j'+1+t) (by omega)
        rw [g2] at e;cases e
        rw [g1] at h1
        have h2:pQ k true x z=true:=h1
        unfold pQ at h2
        rw [if_pos rfl] at h2
        exact uM sa hx' (of_decide_eq_true h2) hu)
       have rest:j'+1+m2<b.size→∀ z∈b.toList.drop (j'+1+m2),k x<k z:=fun hlt z hz=>by
        obtain ⟨z',g1,g2,g3⟩:=dX hlt
        have h1:=hc2 m2 (Nat.le_refl _) (by omega)
        rw [g1] at h1
        have h2:pQ k true x z' = false:=h1
        unfold pQ at h2
        rw [if_pos rfl] at h2
        have h3:=of_decide_eq_false h2
        have h4:=dis x Wi z' g3
        exact uM sb g2 (by omega) hz
       dsimp (config:={ zeta:=false }) only
       extract_lets
       rename_i jp3 adg ib3
       have Wm:∀ (out:Array Keyed) (ib:Nat),MI k a.toList b.toList out.toList ia ib→ib<b.size→j'+1≤ib→(∀ z∈b.toList.drop ib,k x<k z)→wpS (model prog w) A E s (jp3 () out ib) (HB k a b st (i+j+1) m) st3:=by
        intro out ib MK hib adh hxb
        refine wpS_bind (bN hx ?_)
        have M4:=MK.GC sa hx' hxb
        rw [←xq] at M4
        show wpS _ _ _ _ (if (ia+1+1 == a.size)=true then _ else if _ then _ else _) _ _
        by_cases e4:ia+1+1=a.size
        ·rw [if_pos (by simpa using e4)]
         exact wpS_pure ⟨Je,.inl ⟨_,_,_,_,_,_,_,rfl,Cy _ _ _ M4 e4⟩⟩
        rw [if_neg (by simpa using e4)]
        split
        ·exact wpS_pure ⟨Je,.inr ⟨_,_,_,_,_,_,rfl,M4,by omega,hib,by omega⟩⟩
        ·exact wpS_pure ⟨_,_,_,_,_,_,rfl,M4,by omega,hib,by omega,Je⟩
       show wpS _ _ _ _ (if m2 > 0 then (if (j'+1+m2 == b.size)=true then _ else jp3 () _ (j'+1+m2)) else jp3 () _ (j'+1)) _ _
       by_cases e5:m2 > 0
       ·rw [if_pos e5]
        rw [←QM] at M3
        by_cases e6:j'+1+m2=b.size
        ·rw [if_pos (by simpa using e6)]
         exact wpS_pure ⟨Je,.inl ⟨_,_,_,_,_,_,_,rfl,vd _ _ _ M3 (.inl e6)⟩⟩
        ·rw [if_neg (by simpa using e6)]
         exact Wm _ _ M3 (by omega) (by omega) (rest (by omega))
       ·rw [if_neg e5]
        have e7:m2=0:=by omega
        subst e7
        exact Wm _ _ M2 (by omega) (Nat.le_refl _) (rest (by omega))
      show wpS _ _ _ _ (if m1 > 0 then (if (i'+m1+1 == a.size)=true then _ else if (i'+m1 == a.size)=true then _ else jp2 () _ (i'+m1)) else jp2 () out i') _ _
      by_cases e5:m1 > 0
      ·rw [if_pos e5]
       rw [←QM] at M1
       by_cases e6:i'+m1+1=a.size
       ·rw [if_pos (by simpa using e6)]
        exact wpS_pure ⟨Je,.inl ⟨_,_,_,_,_,_,_,rfl,Cy _ _ _ M1 e6⟩⟩
       ·rw [if_neg (by simpa using e6),if_neg (by simp;omega)]
        exact Wk _ _ M1 (by omega) (by omega) above
      ·rw [if_neg e5]
       have e7:m1=0:=by omega
       subst e7
       exact Wk _ _ M hi (Nat.le_refl _) above
     show wpS _ _ _ _ (if _ then jp () _ else jp () _) _ _
     split
     ·exact wpS_mono (hjp _) (fun r st' h=>by cases r <;> exact h)
     ·exact wpS_mono (hjp _) (fun r st' h=>by cases r <;> exact h)
    ·rintro c st2 ⟨out,i',j',mg,ac,bc,rfl,M,hi,hj,hm2,al⟩
     omega
    ·rintro c st2 ⟨RM,⟨r,zf,i2,j2,mg2,ac,bc,rfl,G⟩ | ⟨zf,i2,j2,mg2,ac,bc,rfl,M2,hi2,hj2,hs2⟩⟩
     ·exact wpS_pure ⟨_,_,_,_,_,rfl,G,RM⟩
     ·refine wpS_bind (wpS_modify ?_)
      exact wpS_pure ⟨zf,i2,j2,_,rfl,M2,hi2,hj2,by omega,RM.trans ⟨rfl,rfl,rfl,rfl⟩⟩
 ·rintro c st1 ⟨out,i,j,mg,rfl,M,hi,hj,hn,al⟩
  omega
 ·rintro c st1 ⟨r,out,i,j,mg,rfl,G,al⟩
  exact wpS_pure (q _ _ G al)
end
end SR
namespace SR
open PySem PyProof.Rows
structure MH (k:Keyed→Int) (la lb o:List Keyed) (na nb:Nat):Prop where
 ha:na≤la.length
 hb:nb≤lb.length
 pm:o.Perm (la.drop na++lb.drop nb)
 st:iJ k o
 oa:∀ y∈o,∀ x∈la.take na,k x<k y
 ob:∀ y∈o,∀ x∈lb.take nb,k x<k y
section
variable {k:Keyed→Int} {la lb o:List Keyed} {na nb t:Nat} {x:Keyed}
theorem Cz (l:List Keyed) {t n:Nat} (h:t≤n):l.drop t=(l.take n).drop t++l.drop n:=by
 conv=>lhs;rw [←List.take_append_drop n l]
 rw [List.drop_append]
 by_cases hl:n≤l.length
 ·rw [List.length_take,Nat.min_eq_left hl,show t - n=0 by omega,List.drop_zero]
 ·rw [List.drop_eq_nil_of_le (show l.length≤n by omega),List.drop_nil]
theorem zY {l:List Keyed} {i j:Nat} {y:Keyed} (h:y∈l.take i) (hij:i≤j):y∈l.take j:=by
 have:l.take i=(l.take j).take i:=by rw [List.take_take,Nat.min_eq_left hij]
 rw [this] at h
 exact List.mem_of_mem_take h
theorem GD {l:List Keyed} (s:iJ k l) {t n:Nat} (h:t≤n):∀ x∈l.take t,∀ y∈(l.take n).drop t,k x<k y:=by
 have s2:iJ k (l.take n):=s.sublist (List.take_sublist _ _)
 rw [←List.take_append_drop t (l.take n),List.take_take,Nat.min_eq_left h] at s2
 exact (List.pairwise_append.mp s2).2.2
theorem MH.Wd (h:MH k la lb o na nb) (sa:iJ k la) (ht:t≤na) (hlt:∀ y∈(la.take na).drop t,∀ x∈lb.take nb,k x<k y):MH k la lb ((la.take na).drop t++o) t nb where
 ha:=by have:=h.ha;omega
 hb:=h.hb
 pm:=by
  rw [Cz la ht,List.append_assoc]
  exact List.Perm.append_left _ h.pm
 st:=by
  have s1:iJ k ((la.take na).drop t):=(sa.sublist ((List.drop_sublist _ _).trans (List.take_sublist _ _)))
  exact List.pairwise_append.mpr ⟨s1,h.st,fun x hx y hy=>h.oa y hy x (List.mem_of_mem_drop hx)⟩
 oa:=fun y hy x hx=>by
  rcases List.mem_append.mp hy with z | z
  ·exact GD sa ht x hx y z
  ·exact h.oa y z x (zY hx ht)
 ob:=fun y hy x hx=>by
  rcases List.mem_append.mp hy with z | z
  ·exact hlt y z x hx
  ·exact h.ob y z x hx
theorem MH.Wf (h:MH k la lb o na nb) (sb:iJ k lb) (ht:t≤nb) (hlt:∀ y∈(lb.take nb).drop t,∀ x∈la.take na,k x<k y):MH k la lb ((lb.take nb).drop t++o) na t where
 ha:=h.ha
 hb:=by have:=h.hb;omega
 pm:=by
  rw [Cz lb ht]
  refine (List.Perm.append_left _ h.pm).trans ?_
  rw [←List.append_assoc,←List.append_assoc]
  exact List.Perm.append_right _ List.perm_append_comm
 st:=by
  have s1:iJ k ((lb.take nb).drop t):=(sb.sublist ((List.drop_sublist _ _).trans (List.take_sublist _ _)))
  exact List.pairwise_append.mpr ⟨s1,h.st,fun x hx y hy=>h.ob y hy x (List.mem_of_mem_drop hx)⟩
 oa:=fun y hy x hx=>by
  rcases List.mem_append.mp hy with z | z
  ·exact hlt y z x hx
  ·exact h.oa y z x hx
 ob:=fun y hy x hx=>by
  rcases List.mem_append.mp hy with z | z
  ·exact GD sb ht x hx y z
  ·exact h.ob y z x (zY hx ht)
theorem Br {l:List Keyed} {n:Nat} {x:Keyed} (hx:l[n]? = some x):(l.take (n+1)).drop n=[x]:=by
 obtain ⟨h,e⟩:=List.getElem?_eq_some_iff.mp hx
 rw [List.take_add_one,hx,List.drop_append,List.length_take,Nat.min_eq_left (by omega),Nat.sub_self,List.drop_eq_nil_of_le (by rw [List.length_take];omega)]
 rfl
theorem MH.GC (h:MH k la lb o (na+1) nb) (sa:iJ k la) (hx:la[na]? = some x) (hlt:∀ z∈lb.take nb,k z<k x):MH k la lb (x::o) na nb:=by
 have:=h.Wd (t:=na) sa (by omega) (by rw [Br hx];intro y hy;rw [List.mem_singleton.mp hy];exact hlt)
 rw [Br hx] at this
 exact this
theorem MH.J3 (h:MH k la lb o na (nb+1)) (sb:iJ k lb) (hx:lb[nb]? = some x) (hlt:∀ z∈la.take na,k z<k x):MH k la lb (x::o) na nb:=by
 have:=h.Wf (t:=nb) sb (by omega) (by rw [Br hx];intro y hy;rw [List.mem_singleton.mp hy];exact hlt)
 rw [Br hx] at this
 exact this
theorem MH.fin (h:MH k la lb o na nb) {r:List Keyed} (hr:r.Perm (la.take na++lb.take nb)) (sr:iJ k r):Good k la lb (r++o) where
 pm:=by
  refine (hr.append h.pm).trans ?_
  have e1:(la.take na++lb.take nb++(la.drop na++lb.drop nb)).Perm ((la.take na++la.drop na)++(lb.take nb++lb.drop nb)):=by
   rw [List.append_assoc,List.append_assoc]
   refine List.Perm.append_left _ ?_
   rw [←List.append_assoc,←List.append_assoc]
   exact List.Perm.append_right _ List.perm_append_comm
  rw [List.take_append_drop,List.take_append_drop] at e1
  exact e1
 st:=List.pairwise_append.mpr ⟨sr,h.st,fun x hx y hy=>by
  rcases List.mem_append.mp (hr.mem_iff.mp hx) with z | z
  ·exact h.oa y hy x z
  ·exact h.ob y hy x z⟩
theorem MH.done (h:MH k la lb o na nb) (sa:iJ k la) (sb:iJ k lb) (e:na=0∨nb=0):Good k la lb (la.take na++lb.take nb++o):=by
 refine h.fin (List.Perm.refl _) ?_
 rcases e with rfl | rfl
 ·rw [List.take_zero,List.nil_append];exact sb.sublist (List.take_sublist _ _)
 ·rw [List.take_zero,List.append_nil];exact sa.sublist (List.take_sublist _ _)
theorem MH.aaI (h:MH k la lb o na nb) (sa:iJ k la) (sb:iJ k lb) (hf:∀ x,lb[0]? = some x→∀ y∈la,k x<k y) (e:nb=1):Good k la lb (lb.take nb++la.take na++o):=by
 refine h.fin List.perm_append_comm ?_
 refine List.pairwise_append.mpr ⟨sb.sublist (List.take_sublist _ _),sa.sublist (List.take_sublist _ _),fun x hx y hy=>?_⟩
 subst e
 obtain ⟨j,hj⟩:=List.mem_iff_getElem?.mp hx
 rw [List.getElem?_take] at hj
 split at hj
 ·rename_i hlt
  have:j=0:=by omega
  subst this
  exact hf x hj y (List.mem_of_mem_take hy)
 ·cases hj
theorem jw {l:List Keyed} {i:Nat} {y:Keyed} (h:y∈l.take i):∃ j,j<i∧l[j]? = some y:=by
 obtain ⟨j,hj⟩:=List.mem_iff_getElem?.mp h
 rw [List.getElem?_take] at hj
 split at hj
 ·rename_i hlt;exact ⟨j,hlt,hj⟩
 ·cases hj
theorem vK {l:List Keyed} {t n:Nat} {y:Keyed} (h:y∈(l.take n).drop t):∃ j,t≤j∧j<n∧l[j]? = some y:=by
 obtain ⟨j,hj⟩:=List.mem_iff_getElem?.mp h
 rw [List.getElem?_drop,List.getElem?_take] at hj
 split at hj
 ·rename_i hlt;exact ⟨t+j,by omega,hlt,hj⟩
 ·cases hj
theorem Bs {l:List Keyed} (h:iJ k l) {i:Nat} {x y:Keyed} {c:Int} (hi:l[i]? = some x) (hc:k x<c) (hy:y∈l.take (i+1)):k y<c:=by
 obtain ⟨j,hj,e⟩:=jw hy
 by_cases z:j=i
 ·subst z;rw [hi] at e;cases e;exact hc
 ·have:=tE h e hi (by omega);omega
end
theorem J6 (a:Array Keyed) (n:Nat):(a.extract 0 n).toList=a.toList.take n:=by
 rw [Array.toList_extract,List.extract_eq_take_drop,List.drop_zero,Nat.sub_zero]
theorem QV (a b out:Array Keyed) (n m:Nat):(a.extract 0 n++b.extract 0 m++out.reverse).toList=a.toList.take n++b.toList.take m++out.toList.reverse:=by
 rw [Array.toList_append,Array.toList_append,J6,J6,Array.toList_reverse]
theorem uN (out:Array Keyed) (x:Keyed):(out.push x).toList.reverse=x::out.toList.reverse:=by rw [Array.toList_push,List.reverse_append];rfl
theorem J7 (out a:Array Keyed) (t n:Nat):(out++(a.extract t n).reverse).toList.reverse=(a.toList.take n).drop t++out.toList.reverse:=by
 rw [Array.toList_append,Array.toList_reverse,List.reverse_append,List.reverse_reverse,Array.toList_extract,List.extract_eq_take_drop,List.drop_take]
end SR
namespace SR
open PySem PyProof.Rows
section
variable {prog:Program} {w:World} {A:Around} {E:Value→Shared→Prop} {s:Shared} {k:Keyed→Int} {ok:Keyed→Prop}
def HD (k:Keyed→Int) (a b:Array Keyed) (st:SortSt) (p m:Nat) (r:ForInStep (Option (Array Keyed)×Nat×Nat×Array Keyed×Nat×Nat×Nat)) (st':SortSt):Prop:=match r with
 | .done c'=>Alike st st'∧((∃ (r out:Array Keyed) (na nb mg ac bc:Nat),c' = (some r,na,nb,out,mg,ac,bc)∧Good k a.toList b.toList r.toList)∨∃ (out:Array Keyed) (na nb mg ac bc:Nat),c' = (none,na,nb,out,mg,ac,bc)∧MH k a.toList b.toList out.toList.reverse na nb∧1≤na∧2≤nb∧na+nb+p≤a.size+b.size)
 | .yield c'=>∃ (out:Array Keyed) (na nb mg ac bc:Nat),c' = (none,na,nb,out,mg,ac,bc)∧MH k a.toList b.toList out.toList.reverse na nb∧1≤na∧2≤nb∧na+nb+p+(m+1)≤a.size+b.size∧Alike st st'
theorem Ml (hL:zc prog w A E s k ok) {a b:Array Keyed} {st:SortSt} {Q:Array Keyed→SortSt→Prop} (hk:kindOf st=oneType') (Wg:∀ x∈a.toList,ok x) (okb:∀ x∈b.toList,ok x) (sa:iJ k a.toList) (sb:iJ k b.toList)
  (dis:∀ x∈a.toList,∀ y∈b.toList,k x≠k y) (na0:0<a.size) (nb0:0<b.size) (hf:∀ x,b.toList[0]? = some x→∀ y∈a.toList,k x<k y) (hl:∀ x,a.toList[a.toList.length - 1]? = some x→∀ y∈b.toList,k y<k x)
  (q:∀ r st',Good k a.toList b.toList r.toList→Alike st st'→Q r st'):wpS (model prog w) A E s (Wc a b) Q st:=by
 have hla:a.toList.length=a.size:=Array.length_toList
 have hlb:b.toList.length=b.size:=Array.length_toList
 have vd:∀ (out:Array Keyed) (i j:Nat),MH k a.toList b.toList out.toList.reverse i j→(i=0∨j=0)→Good k a.toList b.toList (a.extract 0 i++b.extract 0 j++out.reverse).toList:=fun out i j h e=>by
  rw [QV];exact h.done sa sb e
 have vL:∀ (out:Array Keyed) (i j:Nat),MH k a.toList b.toList out.toList.reverse i j→j=1→Good k a.toList b.toList (b.extract 0 j++a.extract 0 i++out.reverse).toList:=fun out i j h e=>by
  rw [QV];exact h.aaI sa sb hf e
 obtain ⟨z0,hz0,ab0,aeX⟩:=dX (a:=a) (i:=a.size - 1) (by omega)
 have adk:∀ y∈b.toList,k y<k z0:=hl z0 (by rw [hla];exact ab0)
 have M00:MH k a.toList b.toList [] a.size b.size:=by
  refine ⟨by omega,by omega,?_,List.Pairwise.nil,fun y hy=>absurd hy List.not_mem_nil,fun y hy=>absurd hy List.not_mem_nil⟩
  rw [List.drop_eq_nil_of_le (by omega),List.drop_eq_nil_of_le (by omega)]
  exact List.Perm.refl _
 have M0:MH k a.toList b.toList (#[z0]:Array Keyed).toList.reverse (a.size - 1) b.size:=by
  have h1:MH k a.toList b.toList [] (a.size - 1+1) b.size:=by rw [show a.size - 1+1=a.size by omega];exact M00
  exact h1.GC sa ab0 (fun z hz=>adk z (List.mem_of_mem_take hz))
 refine wpS_bind (wpS_lift (wpAny_rule ⟨rfl,?_⟩))
 extract_lets
 refine wpS_bind (bN hz0 ?_)
 show wpS _ _ _ _ (if (a.size - 1 == 0)=true then _ else if (b.size == 1)=true then _ else _) _ _
 by_cases e1:a.size - 1=0
 ·rw [if_pos (by simpa using e1)]
  exact wpS_pure (q _ _ (vd _ _ _ M0 (.inl e1)) (Alike.refl _))
 rw [if_neg (by simpa using e1)]
 by_cases e2:b.size=1
 ·rw [if_pos (by simpa using e2)]
  exact wpS_pure (q _ _ (vL _ _ _ M0 e2) (Alike.refl _))
 rw [if_neg (by simpa using e2)]
 refine wpS_bind (wpS_get ?_)
 refine wpS_bind (wpS_mono (wpS_forRange (I:=fun n c st'=>∃ (out:Array Keyed) (na nb mg:Nat),c=(none,na,nb,out,mg)∧MH k a.toList b.toList out.toList.reverse na nb∧1≤na∧2≤nb∧na+nb+n≤a.size+b.size∧Alike st st')
  (Q:=fun c st'=>∃ (r out:Array Keyed) (na nb mg:Nat),c=(some r,na,nb,out,mg)∧Good k a.toList b.toList r.toList∧Alike st st') ?_ ?_ ⟨#[z0],a.size - 1,b.size,_,rfl,M0,by omega,by omega,by omega,Alike.refl _⟩) ?_)
 ·rintro n c st1 _ hn ⟨out,na,nb,mg,rfl,M,hi,hj,aaG,al⟩
  -- one by one
  refine wpS_bind (wpS_mono (wpS_forRange (I:=fun m c st'=>∃ (out:Array Keyed) (sH sI ac bc:Nat),c=(none,sH,sI,out,ac,bc)∧MH k a.toList b.toList out.toList.reverse sH sI∧1≤sH∧2≤sI∧sH+sI+n+m≤a.size+b.size∧Alike st st')
   (Q:=fun c st'=>Alike st st'∧((∃ (r out:Array Keyed) (sH sI ac bc:Nat),c=(some r,sH,sI,out,ac,bc)∧Good k a.toList b.toList r.toList)∨∃ (out:Array Keyed) (sH sI ac bc:Nat),c=(none,sH,sI,out,ac,bc)∧MH k a.toList b.toList out.toList.reverse sH sI∧1≤sH∧2≤sI∧sH+sI+(n+1)≤a.size+b.size)) ?_ ?_ ⟨out,na,nb,0,0,rfl,M,hi,hj,by omega,al⟩) ?_)
  ·clear M hi hj aaG al
   rintro m c st2 _ hm ⟨out,sH,sI,ac,bc,rfl,M,hi,hj,hm2,al⟩
   obtain ⟨sH,rfl⟩:∃ u,sH=u+1:=⟨sH - 1,by omega⟩
   obtain ⟨sI,rfl⟩:∃ u,sI=u+1:=⟨sI - 1,by omega⟩
   have hai:sH+1≤a.size:=by have:=M.ha;omega
   have hbi:sI+1≤b.size:=by have:=M.hb;omega
   obtain ⟨x,hx,hx',Wi⟩:=dX (show sH<a.size by omega)
   obtain ⟨y,hy,hy',Sy⟩:=dX (show sI<b.size by omega)
   dsimp only
   refine wpS_bind (bN hy (wpS_bind (bN hx (wpS_bind (hL _ _ _ _ (okb y Sy) (Wg x Wi) (al.kd.trans hk) ?_)))))
   by_cases c1:k y<k x
   ·rw [decide_eq_true c1]
    dsimp only
    rw [if_pos rfl]
    have M2:=M.GC sa hx' (fun z hz=>Bs sb hy' c1 hz)
    rw [←uN] at M2
    refine wpS_bind (bN hx ?_)
    show wpS _ _ _ _ (if (sH == 0)=true then _ else if _ then _ else _) _ _
    by_cases e3:sH=0
    ·rw [if_pos (by simpa using e3)]
     exact wpS_pure ⟨al,.inl ⟨_,_,_,_,_,_,rfl,vd _ _ _ M2 (.inl e3)⟩⟩
    ·rw [if_neg (by simpa using e3)]
     split
     ·exact wpS_pure ⟨al,.inr ⟨_,_,_,_,_,rfl,M2,by omega,hj,by omega⟩⟩
     ·exact wpS_pure ⟨_,_,_,_,_,rfl,M2,by omega,hj,by omega,al⟩
   ·rw [decide_eq_false c1]
    dsimp only
    rw [if_neg (by decide)]
    have c2:k x<k y:=by have:=dis x Wi y Sy;omega
    have M2:=M.J3 sb hy' (fun z hz=>Bs sa hx' c2 hz)
    rw [←uN] at M2
    refine wpS_bind (bN hy ?_)
    show wpS _ _ _ _ (if (sI == 1)=true then _ else if _ then _ else _) _ _
    by_cases e3:sI=1
    ·rw [if_pos (by simpa using e3)]
     exact wpS_pure ⟨al,.inl ⟨_,_,_,_,_,_,rfl,vL _ _ _ M2 e3⟩⟩
    ·rw [if_neg (by simpa using e3)]
     split
     ·exact wpS_pure ⟨al,.inr ⟨_,_,_,_,_,rfl,M2,hi,by omega,by omega⟩⟩
     ·exact wpS_pure ⟨_,_,_,_,_,rfl,M2,hi,by omega,by omega,al⟩
  ·rintro c st2 ⟨out,sH,sI,ac,bc,rfl,M,hi,hj,hm2,al⟩
   omega
  ·rintro c st2 ⟨RM,⟨r,zf,i2,j2,ac,bc,rfl,G⟩ | ⟨zf,i2,j2,ac,bc,rfl,M2,hi2,hj2,hs2⟩⟩
   ·exact wpS_pure ⟨_,_,_,_,_,rfl,G,RM⟩
   ·refine wpS_bind (wpS_lift (wpAny_rule ⟨rfl,?_⟩))
    -- in blocks
    refine wpS_bind (wpS_mono (wpS_forRange (I:=fun m c st'=>∃ (out:Array Keyed) (sH sI mg ac bc:Nat),c=(none,sH,sI,out,mg,ac,bc)∧MH k a.toList b.toList out.toList.reverse sH sI∧1≤sH∧2≤sI∧sH+sI+(n+1)+m≤a.size+b.size∧Alike st st')
     (Q:=fun c st'=>Alike st st'∧((∃ (r out:Array Keyed) (sH sI mg ac bc:Nat),c=(some r,sH,sI,out,mg,ac,bc)∧Good k a.toList b.toList r.toList)∨∃ (out:Array Keyed) (sH sI mg ac bc:Nat),c=(none,sH,sI,out,mg,ac,bc)∧MH k a.toList b.toList out.toList.reverse sH sI∧1≤sH∧2≤sI∧sH+sI+(n+1)≤a.size+b.size)) ?_ ?_ ⟨zf,i2,j2,_,ac,bc,rfl,M2,hi2,hj2,by omega,RM⟩) ?_)
    ·clear M2 hi2 hj2 hs2 RM
     rintro m c st2 _ hm ⟨out,sH,sI,mg,ac,bc,rfl,M,hi,hj,hm2,al⟩
     obtain ⟨u,rfl⟩:∃ u,sH=u+1:=⟨sH - 1,by omega⟩
     obtain ⟨v,rfl⟩:∃ u,sI=u+1:=⟨sI - 1,by omega⟩
     have hai:u+1≤a.size:=by have:=M.ha;omega
     have hbi:v+1≤b.size:=by have:=M.hb;omega
     extract_lets
     rename_i jp mgm
     have hjp:∀ mg',wpS (model prog w) A E s (jp () mg') (HD k a b st (n+1) m) st2:=by
      intro mg'
      refine wpS_bind (wpS_modify ?_)
      obtain ⟨y,hy,hy',Sy⟩:=dX (show v<b.size by omega)
      refine wpS_bind (bN hy (wpS_bind (kO hL (okb y Sy) (al.kd.trans hk) (str_mk (base:=0) (n:=u+1) sa Wg (by omega)) (show u+1 - 1<u+1 by omega) (fun m1 hm1 hb1 hb2=>?_))))
      have hm1:m1≤u+1:=hm1
      have hb2:∀ t,m1≤t→t<u+1→(a[0+t]?).elim false (pQ k false y)=false:=hb2
      have below:∀ z∈a.toList.take m1,k z<k y:=fun z hz=>by
       obtain ⟨t,ht,e⟩:=jw hz
       have h1:=hb1 t ht
       obtain ⟨x',g1,g2,g3⟩:=dX (a:=a) (i:=t) (by omega)
       rw [g2] at e;cases e
       rw [Nat.zero_add,g1] at h1
       have h2:pQ k false y z=true:=h1
       unfold pQ at h2
       rw [if_neg (by decide)] at h2
       have h3:¬ k y<k z:=by simpa using h2
       have:=dis z g3 y Sy
       omega
      have M1:=M.Wd (t:=m1) sa hm1 (fun x hx z hz=>by
       obtain ⟨t,ht1,RP,e⟩:=vK hx
       have h1:=hb2 t ht1 RP
       obtain ⟨x',g1,g2,g3⟩:=dX (a:=a) (i:=t) (by omega)
       rw [g2] at e;cases e
       rw [Nat.zero_add,g1] at h1
       have h2:pQ k false y x=false:=h1
       unfold pQ at h2
       rw [if_neg (by decide)] at h2
       have h3:k y<k x:=by simpa using h2
       exact Bs sb hy' h3 hz)
      have Je:Alike st (SortSt.mk' (kindOf st2) (arrOf st2) (pendingOf st2) mg' (failedOf st2)):=al.trans ⟨rfl,rfl,rfl,rfl⟩
      show wpS _ _ _ _ _ (HD k a b st (n+1) m) (SortSt.mk' (kindOf st2) (arrOf st2) (pendingOf st2) mg' (failedOf st2))
      generalize SortSt.mk' (kindOf st2) (arrOf st2) (pendingOf st2) mg' (failedOf st2)=st3 at Je
      dsimp (config:={ zeta:=false }) only
      extract_lets
      rename_i jp2 zf na2
      have Wk:∀ (out:Array Keyed) (ia:Nat),MH k a.toList b.toList out.toList.reverse ia (v+1)→1≤ia→ia≤u+1→(∀ z∈a.toList.take ia,k z<k y)→wpS (model prog w) A E s (jp2 () ia out) (HD k a b st (n+1) m) st3:=by
       intro out ia MJ hia adf hab
       obtain ⟨u2,rfl⟩:∃ u,ia=u+1:=⟨ia - 1,by omega⟩
       refine wpS_bind (bN hy ?_)
       have M2:=MJ.J3 sb hy' hab
       rw [←uN] at M2
       obtain ⟨x,hx,hx',Wi⟩:=dX (show u2<a.size by omega)
       show wpS _ _ _ _ (if (v == 1)=true then _ else _) _ _
       by_cases e3:v=1
       ·rw [if_pos (by simpa using e3)]
        exact wpS_pure ⟨Je,.inl ⟨_,_,_,_,_,_,_,rfl,vL _ _ _ M2 e3⟩⟩
       rw [if_neg (by simpa using e3)]
       refine wpS_bind (bN hx (wpS_bind (kO hL (Wg x Wi) (Je.kd.trans hk) (str_mk (base:=0) (n:=v) sb okb (by omega)) (show v - 1<v by omega) (fun m2 hm2' hc1 hc2=>?_))))
       have hm2':m2≤v:=hm2'
       have hc2:∀ t,m2≤t→t<v→(b[0+t]?).elim false (pQ k true x)=false:=hc2
       have M3:=M2.Wf (t:=m2) sb hm2' (fun z hz u hu=>by
        obtain ⟨t,ht1,RP,e⟩:=vK hz
        have h1:=hc2 t ht1 RP
        obtain ⟨z',g1,g2,g3⟩:=dX (a:=b) (i:=t) (by omega)
        rw [g2] at e;cases e
        rw [Nat.zero_add,g1] at h1
        have h2:pQ k true x z=false:=h1
        unfold pQ at h2
        rw [if_pos rfl] at h2
        have h3:=of_decide_eq_false h2
        have h4:=dis x Wi z g3
        exact Bs sa hx' (by omega) hu)
       have rest:∀ z∈b.toList.take m2,k z<k x:=fun z hz=>by
        obtain ⟨t,ht,e⟩:=jw hz
        have h1:=hc1 t ht
        obtain ⟨z',g1,g2,g3⟩:=dX (a:=b) (i:=t) (by omega)
        rw [g2] at e;cases e
        rw [Nat.zero_add,g1] at h1
        have h2:pQ k true x z=true:=h1
        unfold pQ at h2
        rw [if_pos rfl] at h2
        exact of_decide_eq_true h2
       dsimp (config:={ zeta:=false }) only
       extract_lets
       rename_i jp3 adg nb3
       have Wm:∀ (out:Array Keyed) (ib:Nat),MH k a.toList b.toList out.toList.reverse (u2+1) ib→2≤ib→ib≤v→(∀ z∈b.toList.take ib,k z<k x)→wpS (model prog w) A E s (jp3 () ib out) (HD k a b st (n+1) m) st3:=by
        intro out ib MK hib adh hxb
        refine wpS_bind (bN hx ?_)
        have M4:=MK.GC sa hx' hxb
        rw [←uN] at M4
        show wpS _ _ _ _ (if (u2 == 0)=true then _ else if _ then _ else _) _ _
        by_cases e4:u2=0
        ·rw [if_pos (by simpa using e4)]
         exact wpS_pure ⟨Je,.inl ⟨_,_,_,_,_,_,_,rfl,vd _ _ _ M4 (.inl e4)⟩⟩
        rw [if_neg (by simpa using e4)]
        split
        ·exact wpS_pure ⟨Je,.inr ⟨_,_,_,_,_,_,rfl,M4,by omega,hib,by omega⟩⟩
        ·exact wpS_pure ⟨_,_,_,_,_,_,rfl,M4,by omega,hib,by omega,Je⟩
       show wpS _ _ _ _ (if v - m2 > 0 then (if (m2 == 1)=true then _ else if (m2 == 0)=true then _ else jp3 () m2 _) else jp3 () v _) _ _
       by_cases e5:v - m2 > 0
       ·rw [if_pos e5]
        rw [←J7] at M3
        by_cases e6:m2=1
        ·rw [if_pos (by simpa using e6)]
         exact wpS_pure ⟨Je,.inl ⟨_,_,_,_,_,_,_,rfl,vL _ _ _ M3 e6⟩⟩
        ·rw [if_neg (by simpa using e6)]
         by_cases e7:m2=0
         ·rw [if_pos (by simpa using e7)]
          exact wpS_pure ⟨Je,.inl ⟨_,_,_,_,_,_,_,rfl,vd _ _ _ M3 (.inr e7)⟩⟩
         ·rw [if_neg (by simpa using e7)]
          exact Wm _ _ M3 (by omega) (by omega) rest
       ·rw [if_neg e5]
        have e7:m2=v:=by omega
        subst e7
        exact Wm _ _ M2 (by omega) (Nat.le_refl _) rest
      show wpS _ _ _ _ (if u+1 - m1 > 0 then (if (m1 == 0)=true then _ else jp2 () m1 _) else jp2 () (u+1) out) _ _
      by_cases e5:u+1 - m1 > 0
      ·rw [if_pos e5]
       rw [←J7] at M1
       by_cases e6:m1=0
       ·rw [if_pos (by simpa using e6)]
        exact wpS_pure ⟨Je,.inl ⟨_,_,_,_,_,_,_,rfl,vd _ _ _ M1 (.inl e6)⟩⟩
       ·rw [if_neg (by simpa using e6)]
        exact Wk _ _ M1 (by omega) hm1 below
      ·rw [if_neg e5]
       have e7:m1=u+1:=by omega
       rw [e7] at below
       exact Wk _ _ M hi (Nat.le_refl _) below
     show wpS _ _ _ _ (if _ then jp () _ else jp () _) _ _
     split
     ·exact wpS_mono (hjp _) (fun r st' h=>by cases r <;> exact h)
     ·exact wpS_mono (hjp _) (fun r st' h=>by cases r <;> exact h)
    ·rintro c st2 ⟨out,sH,sI,mg,ac,bc,rfl,M,hi,hj,hm2,al⟩
     omega
    ·rintro c st2 ⟨RM,⟨r,zf,i2,j2,mg2,ac,bc,rfl,G⟩ | ⟨zf,i2,j2,mg2,ac,bc,rfl,M2,hi2,hj2,hs2⟩⟩
     ·exact wpS_pure ⟨_,_,_,_,_,rfl,G,RM⟩
     ·refine wpS_bind (wpS_modify ?_)
      exact wpS_pure ⟨zf,i2,j2,_,rfl,M2,hi2,hj2,by omega,RM.trans ⟨rfl,rfl,rfl,rfl⟩⟩
 ·rintro c st1 ⟨out,na,nb,mg,rfl,M,hi,hj,hn,al⟩
  omega
 ·rintro c st1 ⟨r,out,na,nb,mg,rfl,G,al⟩
  exact wpS_pure (q _ _ G al)
end
end SR
namespace SR
open PySem PyProof.Rows
def ky (k:Keyed→Int) (a:Array Keyed) (i:Nat):Int:=(a[i]?).elim 0 k
structure Pl (k:Keyed→Int) (ok:Keyed→Prop) (a0:Array Keyed) (lo:Nat) (st:SortSt):Prop where
 pm:(arrOf st).Perm a0
 kd:kindOf st=oneType'
 fl:failedOf st=none
 Zk:∀ x∈a0.toList,ok x
 nd:(a0.toList.map k).Nodup
 pre:∀ i,i<lo→(arrOf st)[i]? = a0[i]?
def Up (k:Keyed→Int) (a:Array Keyed) (lo n:Nat):Prop:=∀ i j,i<j→j<n→ky k a (lo+i)<ky k a (lo+j)
section
variable {prog:Program} {w:World} {A:Around} {E:Value→Shared→Prop} {s:Shared} {k:Keyed→Int} {ok:Keyed→Prop} {a0:Array Keyed} {lo:Nat} {st:SortSt}
theorem Pl.size (h:Pl k ok a0 lo st):(arrOf st).size=a0.size:=h.pm.size_eq
theorem Pl.get (h:Pl k ok a0 lo st) {i:Nat} (hi:i<a0.size):∃ x,(arrOf st)[i]? = some x∧ok x∧ky k (arrOf st) i=k x:=by
 obtain ⟨x,h1,h2,h3⟩:=dX (a:=arrOf st) (i:=i) (by rw [h.size];exact hi)
 refine ⟨x,h1,h.Zk x (h.pm.toList.mem_iff.mp h3),?_⟩
 unfold ky;rw [h1];rfl
theorem Pl.ne (h:Pl k ok a0 lo st) {i j:Nat} (hi:i<a0.size) (hj:j<a0.size) (hij:i≠j):ky k (arrOf st) i≠ky k (arrOf st) j:=by
 have nd:((arrOf st).toList.map k).Nodup:=(h.pm.toList.map k).nodup_iff.mpr h.nd
 obtain ⟨x,h1,h2,h3⟩:=dX (a:=arrOf st) (i:=i) (by rw [h.size];exact hi)
 obtain ⟨y,g1,g2,g3⟩:=dX (a:=arrOf st) (i:=j) (by rw [h.size];exact hj)
 unfold ky
 rw [h1,g1]
 intro e
 have e':k x=k y:=e
 apply hij
 have l1:((arrOf st).toList.map k)[i]? = some (k x):=by rw [List.getElem?_map,h2];rfl
 have l2:((arrOf st).toList.map k)[j]? = some (k x):=by rw [List.getElem?_map,g2,e'];rfl
 have hlen:i<((arrOf st).toList.map k).length:=(List.getElem?_eq_some_iff.mp l1).1
 exact (List.getElem?_inj hlen nd).mp (l1.trans l2.symm)
theorem Pl.set (h:Pl k ok a0 lo st) {b:Array Keyed} (hb:b.Perm (arrOf st)) (hp:∀ i,i<lo→b[i]? = (arrOf st)[i]?):Pl k ok a0 lo (setArr st b) :=
 ⟨hb.trans h.pm,h.kd,h.fl,h.Zk,h.nd,fun i hi=>(hp i hi).trans (h.pre i hi)⟩
theorem wp_at (hL:zc prog w A E s k ok) (h:Pl k ok a0 lo st) {i j:Nat} {Q:Option Bool→SortSt→Prop} (hi:i<a0.size) (hj:j<a0.size) (q:Q (some (decide (ky k (arrOf st) i<ky k (arrOf st) j))) st):wpS (model prog w) A E s (ltAt' i j) Q st:=by
 obtain ⟨x,h1,h2,h3⟩:=h.get hi
 obtain ⟨y,g1,g2,g3⟩:=h.get hj
 rw [ltAt'_eq]
 rw [h3,g3] at q
 exact wpS_bind (wpS_get (wpS_bind (bN h1 (wpS_bind (bN g1 (hL _ _ _ _ h2 g2 h.kd q))))))
theorem Wn (hL:zc prog w A E s k ok) {n g:Nat} {Q:Bool→SortSt→Prop} (hn:lo+n≤a0.size) (hg:g≤n) (h:Pl k ok a0 lo st) (up:Up k (arrOf st) lo g)
  (q:∀ st',Pl k ok a0 lo st'→pendingOf st' = pendingOf st→Up k (arrOf st') lo n→Q true st'):wpS (model prog w) A E s (binarySort' lo n g) Q st:=by
 rw [binarySort'_eq]
 refine wpS_bind (wpS_mono (wpS_forRange (I:=fun x c st'=>c=(none,())∧Pl k ok a0 lo st'∧pendingOf st' = pendingOf st∧Up k (arrOf st') lo (min x n)) (Q:=fun c st'=>c=(none,())∧Pl k ok a0 lo st'∧pendingOf st' = pendingOf st∧Up k (arrOf st') lo n) ?_ ?_ ⟨rfl,h,rfl,?_⟩) ?_)
 ·rintro x c st1 h1 h2 ⟨rfl,P1,pd1,up1⟩
  rw [show min x n=x by omega] at up1
  have hx1:1≤x:=by omega
  clear h1
  refine wpS_bind (wpS_mono (wpS_forRange (I:=fun y c st'=>st' = st1∧∃ l r,c=(none,l,r)∧l≤r∧r≤x∧r+y≤l+x∧(∀ i,i<l→ky k (arrOf st1) (lo+i)<ky k (arrOf st1) (lo+x))∧∀ i,r≤i→i<x→ky k (arrOf st1) (lo+x)<ky k (arrOf st1) (lo+i))
   (Q:=fun c st'=>st' = st1∧∃ l,c=(none,l,l)∧l≤x∧(∀ i,i<l→ky k (arrOf st1) (lo+i)<ky k (arrOf st1) (lo+x))∧∀ i,l≤i→i<x→ky k (arrOf st1) (lo+x)<ky k (arrOf st1) (lo+i)) ?_ ?_ ⟨rfl,0,x,rfl,Nat.zero_le _,Nat.le_refl _,by omega,fun i hi=>absurd hi (by omega),fun i h3 h4=>absurd h4 (by omega)⟩) ?_)
  ·rintro y c st2 _ hy ⟨rfl,l,r,rfl,hlr,hrx,hm,b1,b2⟩
   dsimp only
   by_cases e:l ≥ r
   ·rw [if_pos e]
    have:l=r:=by omega
    subst this
    exact wpS_pure ⟨rfl,l,rfl,hrx,b1,b2⟩
   ·rw [if_neg e]
    refine wpS_bind (wp_at hL P1 (by omega) (by omega) ?_)
    by_cases c1:ky k (arrOf st2) (lo+x)<ky k (arrOf st2) (lo+(l+r) / 2)
    ·rw [decide_eq_true c1]
     refine wpS_pure ⟨rfl,l,(l+r) / 2,rfl,by omega,by omega,by omega,b1,fun i h3 h4=>?_⟩
     by_cases ei:i=(l+r) / 2
     ·rw [ei];exact c1
     ·have:=up1 ((l+r) / 2) i (by omega) h4;omega
    ·rw [decide_eq_false c1]
     have hne:=P1.ne (i:=lo+x) (j:=lo+(l+r) / 2) (by omega) (by omega) (by omega)
     refine wpS_pure ⟨rfl,(l+r) / 2+1,r,rfl,by omega,by omega,by omega,fun i h3=>?_,b2⟩
     by_cases ei:i=(l+r) / 2
     ·rw [ei];omega
     ·have:=up1 i ((l+r) / 2) (by omega) (by omega);omega
  ·rintro c st2 ⟨rfl,l,r,rfl,hlr,hrx,hm,b1,b2⟩
   have:l=r:=by omega
   subst this
   exact ⟨rfl,l,rfl,hrx,b1,b2⟩
  ·rintro c st2 ⟨rfl,l,rfl,hlx,b1,b2⟩
   show wpS _ _ _ _ (do moveDown' (lo+x) (lo+l);pure (ForInStep.yield (none,()))) _ _
   rw [moveDown'_eq]
   have hsz:=P1.size
   have gb:=getElem?_bubble (xs:=arrOf st2) (src:=lo+x) (by omega) (lo+x - (lo+l)) (by omega)
   refine wpS_bind (wpS_modify (wpS_pure ⟨rfl,P1.set (bubble_perm _ _ _) (fun i hi=>?_),pd1,?_⟩))
   ·rw [gb,if_neg (by omega),if_neg (by omega)]
   ·rw [show min (x+1) n=x+1 by omega]
    have kb:∀ i,i≤x→ky k (bubble (arrOf st2) (lo+x) (lo+x - (lo+l))) (lo+i)=if i=l then ky k (arrOf st2) (lo+x) else if l<i then ky k (arrOf st2) (lo+(i - 1)) else ky k (arrOf st2) (lo+i):=fun i hi=>by
     unfold ky
     rw [gb]
     by_cases e1:i=l
     ·rw [if_pos (by omega),if_pos e1]
     ·rw [if_neg (by omega),if_neg e1]
      by_cases e2:l<i
      ·rw [if_pos (by omega),if_pos e2,show lo+i - 1=lo+(i - 1) by omega]
      ·rw [if_neg (by omega),if_neg e2]
    intro i j hij hj
    show ky k (bubble (arrOf st2) (lo+x) (lo+x - (lo+l))) (lo+i)<ky k (bubble (arrOf st2) (lo+x) (lo+x - (lo+l))) (lo+j)
    rw [kb i (by omega),kb j (by omega)]
    by_cases e1:i=l
    ·rw [if_pos e1,if_neg (by omega),if_pos (by omega)]
     exact b2 (j - 1) (by omega) (by omega)
    ·rw [if_neg e1]
     by_cases e2:j=l
     ·rw [if_pos e2,if_neg (by omega)]
      exact b1 i (by omega)
     ·rw [if_neg e2]
      by_cases e3:l<i
      ·rw [if_pos e3,if_pos (by omega)]
       exact up1 (i - 1) (j - 1) (by omega) (by omega)
      ·rw [if_neg e3]
       by_cases e4:l<j
       ·rw [if_pos e4]
        by_cases e5:i=j - 1
        ·exact absurd e5 (by omega)
        ·exact up1 i (j - 1) (by omega) (by omega)
       ·rw [if_neg e4]
        exact up1 i j hij (by omega)
 ·rintro c st1 ⟨rfl,P1,pd1,up1⟩
  rw [show min (max (max g 1) n) n=n by omega] at up1
  exact ⟨rfl,P1,pd1,up1⟩
 ·intro i j hij hj
  by_cases e:g=0
  ·omega
  ·exact up i j hij (by omega)
 ·rintro c st1 ⟨rfl,P1,pd1,up1⟩
  exact wpS_pure (q _ P1 pd1 up1)
end
end SR
namespace SR
open PySem PyProof.Rows
section
variable {prog:Program} {w:World} {A:Around} {E:Value→Shared→Prop} {s:Shared} {k:Keyed→Int} {ok:Keyed→Prop} {a0:Array Keyed} {lo:Nat} {st:SortSt}
theorem Up.snoc {a:Array Keyed} {n:Nat} (up:Up k a lo n) (h:1≤n) (hlt:ky k a (lo+(n - 1))<ky k a (lo+n)):Up k a lo (n+1):=by
 intro i j hij hj
 by_cases e:j=n
 ·subst e
  by_cases e2:i=j - 1
  ·rw [e2];exact hlt
  ·have:=up i (j - 1) (by omega) (by omega);omega
 ·exact up i j hij (by omega)
theorem J8 (hL:zc prog w A E s k ok) {n:Nat} {Q:Option Nat→SortSt→Prop} (hn:lo+n≤a0.size) (h1:1≤n) (h:Pl k ok a0 lo st)
  (q:∀ m st',Pl k ok a0 lo st'→pendingOf st' = pendingOf st→1≤m→m≤n→Up k (arrOf st') lo m→Q (some m) st'):wpS (model prog w) A E s (countRun' lo n) Q st:=by
 rw [countRun'_eq]
 extract_lets
 refine wpS_bind (wpS_mono (wpS_forRange (I:=fun x c st'=>st' = st∧c=(none,x)∧Up k (arrOf st) lo x)
  (Q:=fun c st'=>st' = st∧∃ m,c=(none,m)∧1≤m∧m≤n∧Up k (arrOf st) lo m∧(m=n∨ky k (arrOf st) (lo+m)<ky k (arrOf st) (lo+(m - 1)))) ?_ ?_ ⟨rfl,rfl,fun i j h2 h3=>absurd h3 (by omega)⟩) ?_)
 ·rintro x c st1 hx1 hx2 ⟨rfl,rfl,up⟩
  dsimp only
  refine wpS_bind (wp_at hL h (by omega) (by omega) ?_)
  rw [show lo+x - 1=lo+(x - 1) by omega]
  by_cases c1:ky k (arrOf st1) (lo+x)<ky k (arrOf st1) (lo+(x - 1))
  ·rw [decide_eq_true c1]
   exact wpS_pure ⟨rfl,x,rfl,hx1,by omega,up,.inr c1⟩
  ·rw [decide_eq_false c1]
   have:=h.ne (i:=lo+x) (j:=lo+(x - 1)) (by omega) (by omega) (by omega)
   exact wpS_pure ⟨rfl,rfl,up.snoc hx1 (by omega)⟩
 ·rintro c st1 ⟨rfl,rfl,up⟩
  exact ⟨rfl,max 1 n,rfl,by omega,by omega,up,.inl (by omega)⟩
 ·rintro c st1 ⟨rfl,m,rfl,hm1,hm2,up,hm⟩
  extract_lets
  rename_i jp
  show wpS _ _ _ _ (if (m == n)=true then pure (some m) else if m > 1 then _ else jp ()) _ _
  by_cases e:m=n
  ·rw [if_pos (by simpa using e)]
   exact wpS_pure (q m _ h rfl hm1 hm2 up)
  rw [if_neg (by simpa using e)]
  have hlt:=hm.resolve_left e
  by_cases e1:m > 1
  ·rw [if_pos e1]
   refine wpS_bind (wp_at hL h (by omega) (by omega) ?_)
   have h3:ky k (arrOf st1) lo<ky k (arrOf st1) (lo+m - 1):=by
    have:=up 0 (m - 1) (by omega) (by omega)
    rw [Nat.add_zero] at this
    rw [show lo+m - 1=lo+(m - 1) by omega];exact this
   rw [decide_eq_true h3]
   exact wpS_pure (q m _ h rfl hm1 hm2 up)
  rw [if_neg e1]
  have e2:m=1:=by omega
  subst e2
  refine wpS_bind (wpS_lift (wpAny_rule ⟨rfl,?_⟩))
  refine wpS_bind (wpS_mono (wpS_forRange (I:=fun x c st'=>st' = st1∧c=(none,x,0)∧∀ i j,i<j→j<x→ky k (arrOf st1) (lo+j)<ky k (arrOf st1) (lo+i))
   (Q:=fun c st'=>st' = st1∧∃ m,c=(none,m,0)∧2≤m∧m≤n∧∀ i j,i<j→j<m→ky k (arrOf st1) (lo+j)<ky k (arrOf st1) (lo+i)) ?_ ?_ ⟨rfl,rfl,fun i j h2 h3=>?_⟩) ?_)
  ·rintro x c st2 hx1 hx2 ⟨rfl,rfl,dn⟩
   have hx1:2≤x:=hx1
   dsimp only
   refine wpS_bind (wp_at hL h (by omega) (by omega) ?_)
   rw [show lo+x - 1=lo+(x - 1) by omega]
   by_cases c1:ky k (arrOf st2) (lo+x)<ky k (arrOf st2) (lo+(x - 1))
   ·rw [decide_eq_true c1]
    dsimp only
    rw [if_pos rfl,if_neg (by omega)]
    refine wpS_pure ⟨rfl,rfl,fun i j h2 h3=>?_⟩
    by_cases e3:j=x
    ·subst e3
     by_cases e4:i=j - 1
     ·rw [e4];exact c1
     ·have:=dn i (j - 1) (by omega) (by omega);omega
    ·exact dn i j h2 (by omega)
   ·rw [decide_eq_false c1]
    dsimp only
    rw [if_neg (by decide)]
    refine wpS_bind (wp_at hL h (by omega) (by omega) ?_)
    have:=h.ne (i:=lo+x) (j:=lo+(x - 1)) (by omega) (by omega) (by omega)
    rw [decide_eq_true (show ky k (arrOf st2) (lo+(x - 1))<ky k (arrOf st2) (lo+x) by omega)]
    exact wpS_pure ⟨rfl,x,rfl,hx1,by omega,dn⟩
  ·rintro c st2 ⟨rfl,rfl,dn⟩
   have e5:max (1+1) n=n:=by omega
   exact ⟨rfl,max (1+1) n,rfl,by omega,by omega,dn⟩
  ·have h3:j<1+1:=h3
   have:j=1:=by omega
   subst this
   have:i=0:=by omega
   subst this
   exact hlt
  ·rintro c st2 ⟨rfl,m,rfl,hm1,hm2,dn⟩
   dsimp only
   rw [if_neg (by omega)]
   have hsz:=h.size
   have gm:=getElem?_mirror_all (xs:=arrOf st2) (i:=lo) (j:=lo+m) (by omega)
   refine wpS_bind (wpS_reverse ?_)
   have P2:Pl k ok a0 lo (setArr st2 (mirror (arrOf st2) lo (lo+m) ((lo+m - lo) / 2))):=h.set (mirror_perm _ _ _ _) (fun i hi=>by rw [gm,if_neg (by omega)])
   have Yl:Up k (mirror (arrOf st2) lo (lo+m) ((lo+m - lo) / 2)) lo m:=by
    have km:∀ i,i<m→ky k (mirror (arrOf st2) lo (lo+m) ((lo+m - lo) / 2)) (lo+i)=ky k (arrOf st2) (lo+(m - 1 - i)):=fun i hi=>by
     unfold ky
     rw [gm,if_pos (by omega),show lo+(lo+m) - 1 - (lo+i)=lo+(m - 1 - i) by omega]
    intro i j hij hj
    rw [km i (by omega),km j hj]
    exact dn (m - 1 - j) (m - 1 - i) (by omega) (by omega)
   have Zm:pendingOf (setArr st2 (mirror (arrOf st2) lo (lo+m) ((lo+m - lo) / 2)))=pendingOf st2:=rfl
   have ar2:arrOf (setArr st2 (mirror (arrOf st2) lo (lo+m) ((lo+m - lo) / 2)))=mirror (arrOf st2) lo (lo+m) ((lo+m - lo) / 2):=rfl
   rw [←ar2] at Yl
   generalize setArr st2 (mirror (arrOf st2) lo (lo+m) ((lo+m - lo) / 2))=st3 at P2 Yl Zm
   refine wpS_bind (wpS_mono (wpS_forRange (I:=fun x c st'=>st' = st3∧c=(none,x)∧Up k (arrOf st3) lo x)
    (Q:=fun c st'=>st' = st3∧∃ m,c=(none,m)∧1≤m∧m≤n∧Up k (arrOf st3) lo m) ?_ ?_ ⟨rfl,rfl,Yl⟩) ?_)
   ·rintro x c st1 hx1 hx2 ⟨rfl,rfl,up⟩
    dsimp only
    refine wpS_bind (wp_at hL P2 (by omega) (by omega) ?_)
    rw [show lo+x - 1=lo+(x - 1) by omega]
    by_cases c1:ky k (arrOf st1) (lo+x)<ky k (arrOf st1) (lo+(x - 1))
    ·rw [decide_eq_true c1]
     exact wpS_pure ⟨rfl,x,rfl,by omega,by omega,up⟩
    ·rw [decide_eq_false c1]
     have:=P2.ne (i:=lo+x) (j:=lo+(x - 1)) (by omega) (by omega) (by omega)
     exact wpS_pure ⟨rfl,rfl,up.snoc (by omega) (by omega)⟩
   ·rintro c st1 ⟨rfl,rfl,up⟩
    exact ⟨rfl,max m n,rfl,by omega,by omega,up⟩
   ·rintro c st1 ⟨rfl,m,rfl,hm1,hm2,up⟩
    exact wpS_pure (q m _ P2 Zm hm1 hm2 up)
end
end SR
namespace SR
open PySem PyProof.Rows
theorem Ym {M:Model} {A:Around} {E:Value→Shared→Prop} {s:Shared} {σ:Type} {Q:PUnit→σ→Prop} {st st':σ} (h:Q ⟨⟩ st'):wpS M A E s (set st':StateT σ Sem PUnit) Q st:=by
 show wpS M A E s (modify fun _=>st') Q st
 exact wpS_modify h
theorem GF (c:Nat):∀ (l:List Keyed) (i:Nat) (a:Array Keyed),c+i+l.length≤a.size→((l.zipIdx i).foldl (fun a x=>a.setIfInBounds (c+x.2) x.1) a).toList=a.toList.take (c+i)++l++a.toList.drop (c+i+l.length)
 | [],i,a,h=>by
  show a.toList=_
  rw [List.append_nil,List.length_nil,Nat.add_zero,List.take_append_drop]
 | x::r,i,a,h=>by
  rw [List.length_cons] at h
  rw [List.zipIdx_cons,List.foldl_cons,GF c r (i+1) _ (by rw [Array.size_setIfInBounds];omega),Array.toList_setIfInBounds]
  have h1:(a.toList.set (c+i) x).take (c+(i+1))=a.toList.take (c+i)++[x]:=by
   rw [show c+(i+1)=c+i+1 by omega,List.take_add_one,List.getElem?_set,if_pos rfl,if_pos (by rw [Array.length_toList];omega),List.take_set_of_le (Nat.le_refl _)]
   rfl
  rw [h1,List.drop_set_of_lt (by omega),List.length_cons,show c+(i+1)+r.length=c+i+(r.length+1) by omega]
  simp
section
variable {k:Keyed→Int}
theorem HF {a:Array Keyed} {lo n:Nat} (up:Up k a lo n) (h:lo+n≤a.size):iJ k ((a.toList.drop lo).take n):=by
 unfold iJ
 rw [List.pairwise_iff_getElem]
 intro i j hi hj hij
 have hj':j<n:=by rw [List.length_take] at hj;omega
 have:=up i j hij hj'
 unfold ky at this
 have e1:∀ t,t<n→∀ (ht:t<((a.toList.drop lo).take n).length),a[lo+t]? = some ((a.toList.drop lo).take n)[t]:=fun t h1 ht=>by
  rw [List.getElem_take,List.getElem_drop,←Array.getElem?_toList,List.getElem?_eq_getElem]
 rw [e1 i (by omega) hi,e1 j hj' hj] at this
 exact this
theorem aaJ {a:Array Keyed} (h:iJ k a.toList):Up k a 0 a.size:=by
 intro i j hij hj
 rw [Nat.zero_add,Nat.zero_add]
 obtain ⟨x,g1,g2,g3⟩:=dX (a:=a) (i:=i) (by omega)
 obtain ⟨y,f1,f2,f3⟩:=dX (a:=a) (i:=j) hj
 unfold ky
 rw [g1,f1]
 exact tE h g2 f2 hij
theorem Wo {ok:Keyed→Prop} {arr:Array Keyed} {left:Bool} {key:Keyed} {base n:Nat} (up:Up k arr base n) (Wg:∀ x∈arr.toList,ok x) (h:base+n≤arr.size):Str k ok left key arr base n (fun i=>(arr[base+i]?).elim false (pQ k left key)) where
 at_:=fun i hi=>by
  obtain ⟨x,h1,h2,h3⟩:=dX (a:=arr) (i:=base+i) (by omega)
  exact ⟨x,h1,Wg x h3,by rw [h1];rfl⟩
 mono:=fun i j hij hj hb=>by
  obtain ⟨x,h1,h2,h3⟩:=dX (a:=arr) (i:=base+i) (by omega)
  obtain ⟨y,g1,g2,g3⟩:=dX (a:=arr) (i:=base+j) (by omega)
  have hxy:k x≤k y:=by
   by_cases e:i=j
   ·subst e;rw [h1] at g1;cases g1;exact Int.le_refl _
   ·have:=up i j (by omega) hj
    unfold ky at this
    rw [h1,g1] at this
    exact Int.le_of_lt this
  rw [h1]
  rw [g1] at hb
  show pQ k left key x=true
  have hb':pQ k left key y=true:=hb
  unfold pQ at hb' ⊢
  cases left with
  | true =>
   rw [if_pos rfl] at hb' ⊢
   have:=of_decide_eq_true hb'
   exact decide_eq_true (by omega)
  | false =>
   rw [if_neg (by decide)] at hb' ⊢
   have h5:¬ k key<k y:=by simpa using hb'
   have:¬ k key<k x:=by omega
   simpa using this
theorem Yn {la lb r:List Keyed} {m1 m2:Nat} {y0 xl:Keyed} (sa:iJ k la) (sb:iJ k lb) (G:Good k (la.drop m1) (lb.take m2) r) (F1:∀ x∈la.take m1,k x<k y0) (F4:∀ y∈lb.drop m2,k xl<k y) (mn:∀ y∈lb,k y0≤k y) (mx:∀ x∈la,k x≤k xl) :
  iJ k (la.take m1++r++lb.drop m2):=by
 have sa':=sa
 rw [←List.take_append_drop m1 la] at sa'
 have sb':=sb
 rw [←List.take_append_drop m2 lb] at sb'
 obtain ⟨a1,a2,a3⟩:=List.pairwise_append.mp sa'
 obtain ⟨b1,b2,b3⟩:=List.pairwise_append.mp sb'
 refine List.pairwise_append.mpr ⟨List.pairwise_append.mpr ⟨a1,G.st,fun x hx y hy=>?_⟩,b2,fun x hx y hy=>?_⟩
 ·rcases List.mem_append.mp (G.pm.mem_iff.mp hy) with z | z
  ·exact a3 x hx y z
  ·have:=F1 x hx
   have:=mn y (List.mem_of_mem_take z)
   omega
 ·have h4:=F4 y hy
  rcases List.mem_append.mp hx with z | z
  ·have:=mx x (List.mem_of_mem_take z);omega
  ·rcases List.mem_append.mp (G.pm.mem_iff.mp z) with z2 | z2
   ·have:=mx x (List.mem_of_mem_drop z2);omega
   ·exact b3 x z2 y hy
theorem Wq {la lb r:List Keyed} {m1 m2:Nat} (G:Good k (la.drop m1) (lb.take m2) r):(la.take m1++r++lb.drop m2).Perm (la++lb):=by
 have h1:(la.take m1++r++lb.drop m2).Perm (la.take m1++(la.drop m1++lb.take m2)++lb.drop m2):=List.Perm.append_right _ (List.Perm.append_left _ G.pm)
 have h2:la.take m1++(la.drop m1++lb.take m2)++lb.drop m2=la++lb:=by rw [←List.append_assoc,List.take_append_drop,List.append_assoc,List.take_append_drop]
 rw [h2] at h1
 exact h1
end
section
variable {prog:Program} {w:World} {A:Around} {E:Value→Shared→Prop} {s:Shared} {k:Keyed→Int} {ok:Keyed→Prop} {a0:Array Keyed} {st:SortSt}
theorem Mp (hL:zc prog w A E s k ok) {n1 n2 p1 p2:Nat} {Q:Bool→SortSt→Prop} (hn:n1+n2=a0.size) (h1:1≤n1) (h2:1≤n2) (h:Pl k ok a0 0 st) (hp:pendingOf st = #[(0,n1,p1),(n1,n2,p2)]) (u1:Up k (arrOf st) 0 n1) (u2:Up k (arrOf st) n1 n2)
  (q:∀ st',Pl k ok a0 0 st'→pendingOf st' = #[(0,n1+n2,p1)]→Up k (arrOf st') 0 (n1+n2)→Q true st'):wpS (model prog w) A E s (mergeAt' 0) Q st:=by
 obtain ⟨κ,a,pd,g,f,rfl⟩:∃ κ a pd g f,st=SortSt.mk' κ a pd g f:=⟨kindOf st,arrOf st,pendingOf st,gallopOf st,failedOf st,by cases st;rfl⟩
 cases (show pd=_ from hp)
 refine wpS_bind (wpS_get ?_)
 dsimp only
 rw [show (#[(0,n1,p1),(n1,n2,p2)]:Array (Nat×Nat×Nat))[0]? = some (0,n1,p1) from rfl,show (#[(0,n1,p1),(n1,n2,p2)]:Array (Nat×Nat×Nat))[0+1]? = some (n1,n2,p2) from rfl]
 dsimp only
 have hsz:a.size=n1+n2:=by have:=h.size;rw [hn];exact this
 have hlen:a.toList.length=n1+n2:=by rw [Array.length_toList];exact hsz
 have okA:∀ x∈a.toList,ok x:=fun x hx=>h.Zk x (h.pm.toList.mem_iff.mp hx)
 have hab:a.toList.take n1++a.toList.drop n1=a.toList:=List.take_append_drop _ _
 have sa:iJ k (a.toList.take n1):=by
  have:=HF (lo:=0) u1 (by show 0+n1≤a.size;omega)
  rw [List.drop_zero] at this;exact this
 have sb:iJ k (a.toList.drop n1):=by
  have:=HF (lo:=n1) u2 (by show n1+n2≤a.size;omega)
  rw [List.take_of_length_le (by rw [List.length_drop];show a.toList.length - n1≤n2;omega)] at this;exact this
 have aaK:∀ x∈a.toList.take n1,∀ y∈a.toList.drop n1,k x≠k y:=fun x hx y hy=>by
  have nd:(a.toList.map k).Nodup:=(h.pm.toList.map k).nodup_iff.mpr h.nd
  rw [←hab,List.map_append,List.nodup_append] at nd
  exact nd.2.2 _ (List.mem_map_of_mem hx) _ (List.mem_map_of_mem hy)
 obtain ⟨y0,hy0,adl,adn⟩:=dX (a:=a) (i:=n1) (by omega)
 obtain ⟨xl,hxl,ado,adp⟩:=dX (a:=a) (i:=n1 - 1) (by omega)
 have y0b:(a.toList.drop n1)[0]? = some y0:=by rw [List.getElem?_drop,Nat.add_zero];exact adl
 have y0m:y0∈a.toList.drop n1:=List.mem_of_getElem? y0b
 have xla:(a.toList.take n1)[n1 - 1]? = some xl:=by rw [List.getElem?_take,if_pos (by omega)];exact ado
 have xlm:xl∈a.toList.take n1:=List.mem_of_getElem? xla
 have mn:∀ y∈a.toList.drop n1,k y0≤k y:=fun y hy=>by
  obtain ⟨j,hj⟩:=List.mem_iff_getElem?.mp hy
  by_cases e:j=0
  ·subst e;rw [y0b] at hj;cases hj;exact Int.le_refl _
  ·exact Int.le_of_lt (tE sb y0b hj (by omega))
 have mx:∀ x∈a.toList.take n1,k x≤k xl:=fun x hx=>by
  obtain ⟨j,hj⟩:=List.mem_iff_getElem?.mp hx
  have hj2:j<n1:=by have:=(List.getElem?_eq_some_iff.mp hj).1;rw [List.length_take] at this;omega
  by_cases e:j=n1 - 1
  ·subst e;rw [xla] at hj;cases hj;exact Int.le_refl _
  ·exact Int.le_of_lt (tE sa hj xla (by omega))
 have pend:((#[(0,n1,p1),(n1,n2,p2)]:Array (Nat×Nat×Nat)).setIfInBounds 0 (0,n1+n2,p1)).eraseIdxIfInBounds (0+1) = #[(0,n1+n2,p1)]:=by simp
 rw [pend]
 refine wpS_bind (Ym ?_)
 have whole:∀ (a':Array Keyed) (g':Nat),a'.toList.Perm a.toList→iJ k a'.toList→Q true (SortSt.mk' κ a' #[(0,n1+n2,p1)] g' f):=fun a' g' hp' hs'=>by
  have hz:a'.size=n1+n2:=by rw [←Array.length_toList,hp'.length_eq];exact hlen
  refine q _ ⟨?_,h.kd,h.fl,h.Zk,h.nd,fun i hi=>absurd hi (by omega)⟩ rfl ?_
  ·exact (Array.perm_iff_toList_perm.mpr hp').trans h.pm
  ·have:=aaJ hs'
   rw [hz] at this
   exact this
 have kd:kindOf (SortSt.mk' κ a #[(0,n1+n2,p1)] g f)=oneType':=h.kd
 refine wpS_bind (bN hy0 (wpS_bind (kO hL (okA y0 adn) kd (Wo (base:=0) (n:=n1) u1 okA (by omega)) (show 0<n1 by omega) (fun m1 hm1 hb1 hb2=>?_))))
 have hb2:∀ t,m1≤t→t<n1→(a[0+t]?).elim false (pQ k false y0)=false:=hb2
 have F1:∀ x∈(a.toList.take n1).take m1,k x<k y0:=fun x hx=>by
  have hxa:=List.mem_of_mem_take hx
  obtain ⟨t,ht,e⟩:=jw hx
  rw [List.getElem?_take,if_pos (by omega)] at e
  have h3:=hb1 t ht
  obtain ⟨x',g1,g2,g3⟩:=dX (a:=a) (i:=t) (by omega)
  rw [g2] at e;cases e
  rw [Nat.zero_add,g1] at h3
  have h4:pQ k false y0 x=true:=h3
  unfold pQ at h4
  rw [if_neg (by decide)] at h4
  have h5:¬ k y0<k x:=by simpa using h4
  have:=aaK x hxa y0 y0m
  omega
 have F2:∀ x∈(a.toList.take n1).drop m1,k y0<k x:=fun x hx=>by
  obtain ⟨t,ht1,RP,e⟩:=vK hx
  have h3:=hb2 t ht1 RP
  obtain ⟨x',g1,g2,g3⟩:=dX (a:=a) (i:=t) (by omega)
  rw [g2] at e;cases e
  rw [Nat.zero_add,g1] at h3
  have h4:pQ k false y0 x=false:=h3
  unfold pQ at h4
  rw [if_neg (by decide)] at h4
  simpa using h4
 dsimp only
 by_cases e1:n1 - m1=0
 ·rw [if_pos (by simpa using e1)]
  refine wpS_pure (whole a g (List.Perm.refl _) ?_)
  rw [←hab]
  refine List.pairwise_append.mpr ⟨sa,sb,fun x hx y hy=>?_⟩
  have:=F1 x (by rw [List.take_of_length_le (by rw [List.length_take];omega)];exact hx)
  have:=mn y hy
  omega
 rw [if_neg (by simpa using e1)]
 rw [show 0+m1+(n1 - m1) - 1=n1 - 1 by omega]
 refine wpS_bind (bN hxl (wpS_bind (kO hL (okA xl adp) kd (Wo (base:=n1) (n:=n2) u2 okA (by omega)) (show n2 - 1<n2 by omega) (fun m2 hm2 hc1 hc2=>?_))))
 have hm2:m2≤n2:=hm2
 have hc2:∀ t,m2≤t→t<n2→(a[n1+t]?).elim false (pQ k true xl)=false:=hc2
 have F3:∀ y∈(a.toList.drop n1).take m2,k y<k xl:=fun y hy=>by
  obtain ⟨t,ht,e⟩:=jw hy
  rw [List.getElem?_drop] at e
  have h3:=hc1 t ht
  obtain ⟨x',g1,g2,g3⟩:=dX (a:=a) (i:=n1+t) (by omega)
  rw [g2] at e;cases e
  rw [g1] at h3
  have h4:pQ k true xl y=true:=h3
  unfold pQ at h4
  rw [if_pos rfl] at h4
  exact of_decide_eq_true h4
 have F4:∀ y∈(a.toList.drop n1).drop m2,k xl<k y:=fun y hy=>by
  have hyb:=List.mem_of_mem_drop hy
  obtain ⟨j,hj⟩:=List.mem_iff_getElem?.mp hy
  rw [List.getElem?_drop,List.getElem?_drop] at hj
  have hj2:=(List.getElem?_eq_some_iff.mp hj).1
  have h3:=hc2 (m2+j) (by omega) (by omega)
  obtain ⟨x',g1,g2,g3⟩:=dX (a:=a) (i:=n1+(m2+j)) (by omega)
  rw [g2] at hj;cases hj
  rw [g1] at h3
  have h4:pQ k true xl y=false:=h3
  unfold pQ at h4
  rw [if_pos rfl] at h4
  have h5:=of_decide_eq_false h4
  have:=aaK xl xlm y hyb
  omega
 dsimp only
 by_cases e2:m2=0
 ·rw [if_pos (by simpa using e2)]
  subst e2
  refine wpS_pure (whole a g (List.Perm.refl _) ?_)
  rw [←hab]
  refine List.pairwise_append.mpr ⟨sa,sb,fun x hx y hy=>?_⟩
  have:=F4 y (by rw [List.drop_zero];exact hy)
  have:=mx x hx
  omega
 rw [if_neg (by simpa using e2)]
 have ex:(a.extract (0+m1) n1).toList=(a.toList.take n1).drop m1:=by
  rw [Array.toList_extract,List.extract_eq_take_drop,Nat.zero_add,List.drop_take]
 have ey:(a.extract n1 (n1+m2)).toList=(a.toList.drop n1).take m2:=QL a n1 m2
 have zx:(a.extract (0+m1) n1).size=n1 - m1:=by rw [←Array.length_toList,ex,List.length_drop,List.length_take];omega
 have zy:(a.extract n1 (n1+m2)).size=m2:=by rw [←Array.length_toList,ey,List.length_take,List.length_drop];omega
 have ab2:∀ (r:Array Keyed) (st':SortSt),Good k (a.extract (0+m1) n1).toList (a.extract n1 (n1+m2)).toList r.toList→Alike (SortSt.mk' κ a #[(0,n1+n2,p1)] g f) st'→Q true (SortSt.mk' (kindOf st') (r.toList.zipIdx.foldl (fun a x=>a.setIfInBounds (0+m1+x.2) x.1) (arrOf st')) (pendingOf st') (gallopOf st') (failedOf st')):=fun r st' G al=>by
  rw [ex,ey] at G
  have hr:r.toList.length=(n1 - m1)+m2:=by rw [G.pm.length_eq,List.length_append,List.length_drop,List.length_take,List.length_take,List.length_drop];omega
  rw [al.ar,al.kd,al.pd,al.fl]
  show Q true (SortSt.mk' κ (r.toList.zipIdx.foldl (fun a x=>a.setIfInBounds (0+m1+x.2) x.1) a) #[(0,n1+n2,p1)] (gallopOf st') f)
  have ol:=GF (0+m1) r.toList 0 a (by omega)
  have el:a.toList.take (0+m1+0)++r.toList++a.toList.drop (0+m1+0+r.toList.length)=(a.toList.take n1).take m1++r.toList++(a.toList.drop n1).drop m2:=by
   rw [List.take_take,List.drop_drop,hr,show min m1 n1=m1 by omega,show 0+m1+0=m1 by omega,show m1+(n1 - m1+m2)=n1+m2 by omega]
  rw [el] at ol
  refine whole _ _ ?_ ?_
  ·rw [ol]
   have:=Wq G
   rw [hab] at this;exact this
  ·rw [ol]
   exact Yn sa sb G F1 F4 mn mx
 have okx:∀ x∈(a.extract (0+m1) n1).toList,ok x:=fun x hx=>by rw [ex] at hx;exact okA x (List.mem_of_mem_take (List.mem_of_mem_drop hx))
 have oky:∀ x∈(a.extract n1 (n1+m2)).toList,ok x:=fun x hx=>by rw [ey] at hx;exact okA x (List.mem_of_mem_drop (List.mem_of_mem_take hx))
 have sx:iJ k (a.extract (0+m1) n1).toList:=by rw [ex];exact sa.sublist (List.drop_sublist _ _)
 have sy:iJ k (a.extract n1 (n1+m2)).toList:=by rw [ey];exact sb.sublist (List.take_sublist _ _)
 have dis:∀ x∈(a.extract (0+m1) n1).toList,∀ y∈(a.extract n1 (n1+m2)).toList,k x≠k y:=fun x hx y hy=>by
  rw [ex] at hx;rw [ey] at hy
  exact aaK x (List.mem_of_mem_drop hx) y (List.mem_of_mem_take hy)
 have vL:∀ x,(a.extract n1 (n1+m2)).toList[0]? = some x→x=y0:=fun x hx=>by
  rw [ey,List.getElem?_take,if_pos (by omega),y0b] at hx
  exact (Option.some.inj hx).symm
 have Cy:∀ x,(a.extract (0+m1) n1).toList[(a.extract (0+m1) n1).toList.length - 1]? = some x→∀ y∈(a.extract n1 (n1+m2)).toList,k y<k x:=fun x hx y hy=>by
  rw [Array.length_toList,zx,ex,List.getElem?_drop,show m1+(n1 - m1 - 1)=n1 - 1 by omega,xla] at hx
  cases hx
  rw [ey] at hy
  exact F3 y hy
 by_cases e3:n1 - m1≤m2
 ·rw [if_pos e3]
  refine wpS_bind (Mj hL kd okx oky sx sy dis (by omega) (by omega) (fun x y hx hy=>?_) Cy (fun r st' G al=>?_))
  ·rw [vL y hy]
   rw [ex] at hx
   exact F2 x (List.mem_of_getElem? hx)
  ·refine wpS_bind (wpS_modify (wpS_bind (wpS_get (wpS_pure ?_))))
   have:=ab2 r st' G al
   have hfl:(failedOf st').isNone=true:=by rw [al.fl.trans h.fl];rfl
   show Q (failedOf st').isNone _
   rw [hfl];exact this
 ·rw [if_neg e3]
  refine wpS_bind (Ml hL kd okx oky sx sy dis (by omega) (by omega) (fun x hx y hy=>?_) Cy (fun r st' G al=>?_))
  ·rw [vL x hx]
   rw [ex] at hy
   exact F2 y hy
  ·refine wpS_bind (wpS_modify (wpS_bind (wpS_get (wpS_pure ?_))))
   have:=ab2 r st' G al
   have hfl:(failedOf st').isNone=true:=by rw [al.fl.trans h.fl];rfl
   show Q (failedOf st').isNone _
   rw [hfl];exact this
end
end SR
namespace SR
open PySem PyProof.Rows
theorem RQ {n:Nat} (h2:2≤n) (h:n<128):∃ M,minRun' n n 0=M∧1≤M∧M≤n∧n≤2*M:=by
 obtain ⟨f,rfl⟩:∃ f,n=f+1:=⟨n - 1,by omega⟩
 rw [minRun'_succ]
 by_cases e:f+1<64
 ·rw [if_pos e];exact ⟨_,rfl,by omega,by omega,by omega⟩
 ·rw [if_neg e]
  obtain ⟨g,rfl⟩:∃ g,f=g+1:=⟨f - 1,by omega⟩
  rw [minRun'_succ,if_pos (by omega)]
  exact ⟨_,rfl,by omega,by omega,by omega⟩
section
variable {prog:Program} {w:World} {A:Around} {E:Value→Shared→Prop} {s:Shared} {k:Keyed→Int} {ok:Keyed→Prop} {a0:Array Keyed} {st:SortSt}
theorem Pl.own (h:Pl k ok a0 0 st) (lo:Nat):Pl k ok (arrOf st) lo st :=
 ⟨Array.Perm.refl _,h.kd,h.fl,fun x hx=>h.Zk x (h.pm.toList.mem_iff.mp hx),(h.pm.toList.map k).nodup_iff.mpr h.nd,fun _ _=>rfl⟩
theorem Pl.back {st':SortSt} {lo:Nat} (h:Pl k ok a0 0 st) (h':Pl k ok (arrOf st) lo st'):Pl k ok a0 0 st' :=
 ⟨h'.pm.trans h.pm,h'.kd,h'.fl,h.Zk,h.nd,fun i hi=>absurd hi (by omega)⟩
theorem Up.keep {a b:Array Keyed} {n:Nat} (up:Up k a 0 n) (h:∀ i,i<n→b[i]? = a[i]?):Up k b 0 n:=by
 intro i j hij hj
 have:=up i j hij hj
 unfold ky at this ⊢
 rw [h (0+i) (by omega),h (0+j) (by omega)]
 exact this
theorem mod_one (x:Nat×Nat×Nat) (f:Nat×Nat×Nat→Nat×Nat×Nat):(#[x]:Array (Nat×Nat×Nat)).modify ((#[x]:Array (Nat×Nat×Nat)).size - 1) f = #[f x]:=by
 rfl
def One (k:Keyed→Int) (a0:Array Keyed) (st:SortSt):Prop:=∃ p,pendingOf st = #[(0,a0.size,p)]∧Up k (arrOf st) 0 a0.size
def Two (k:Keyed→Int) (a0:Array Keyed) (st:SortSt):Prop:=∃ n1 n2 p,pendingOf st = #[(0,n1,p),(n1,n2,0)]∧n1+n2=a0.size∧1≤n1∧1≤n2∧Up k (arrOf st) 0 n1∧Up k (arrOf st) n1 n2
theorem QX (hL:zc prog w A E s k ok) {Q:Unit→SortSt→Prop} (h2:2≤a0.size) (adq:a0.size<128) (h:Pl k ok a0 0 st) (hp:pendingOf st = #[])
  (q:∀ st',Pl k ok a0 0 st'→Up k (arrOf st') 0 a0.size→Q () st'):wpS (model prog w) A E s sortRuns' Q st:=by
 obtain ⟨M,hM,M1,M2,M3⟩:=RQ h2 adq
 rw [sortRuns'_eq]
 refine wpS_bind (wpS_get ?_)
 dsimp (config:={ zeta:=false }) only
 simp only [h.size,hM]
 refine wpS_bind (wpS_mono (wpS_forRange (I:=fun x c st'=>Pl k ok a0 0 st'∧((x=0∧c=(none,0)∧pendingOf st' = #[])∨(∃ n1,x=1∧c=(none,n1)∧M≤n1∧n1<a0.size∧pendingOf st' = #[(0,n1,0)]∧Up k (arrOf st') 0 n1)∨(1≤x∧c=(none,a0.size)∧(One k a0 st'∨Two k a0 st'))))
  (Q:=fun c st'=>Pl k ok a0 0 st'∧c=(none,a0.size)∧(One k a0 st'∨Two k a0 st')) ?_ ?_ ⟨h,.inl ⟨rfl,rfl,hp⟩⟩) ?_)
 ·rintro x c st1 _ hx ⟨P1,⟨rfl,rfl,hp1⟩ | ⟨n1,rfl,rfl,g1,g2,hp1,up1⟩ | ⟨hx1,rfl,d⟩⟩
  ·dsimp (config:={ zeta:=false }) only
   rw [if_neg (by omega)]
   have tH:∀ (n:Nat) (st3:SortSt),Pl k ok a0 0 st3→pendingOf st3 = #[]→M≤n→n≤a0.size→Up k (arrOf st3) 0 n→Pl k ok a0 0 (setPending st3 ((pendingOf st3).push (0,n,0)))∧((0+1=0∧((none:Option Unit),0+n)=(none,0)∧pendingOf (setPending st3 ((pendingOf st3).push (0,n,0))) = #[])∨(∃ n1,0+1=1∧((none:Option Unit),0+n)=(none,n1)∧M≤n1∧n1<a0.size∧pendingOf (setPending st3 ((pendingOf st3).push (0,n,0))) = #[(0,n1,0)]∧Up k (arrOf (setPending st3 ((pendingOf st3).push (0,n,0)))) 0 n1)∨(1≤0+1∧((none:Option Unit),0+n)=(none,a0.size)∧(One k a0 (setPending st3 ((pendingOf st3).push (0,n,0)))∨Two k a0 (setPending st3 ((pendingOf st3).push (0,n,0)))))):=fun n st3 P3 hp3 hn1 hn2 Zn=>by
    refine ⟨⟨P3.pm,P3.kd,P3.fl,P3.Zk,P3.nd,P3.pre⟩,?_⟩
    have hpd:pendingOf (setPending st3 ((pendingOf st3).push (0,n,0))) = #[(0,n,0)]:=by
     show (pendingOf st3).push (0,n,0)=_
     rw [hp3];rfl
    by_cases e:n=a0.size
    ·subst e
     exact .inr (.inr ⟨by omega,by rw [Nat.zero_add],.inl ⟨0,hpd,Zn⟩⟩)
    ·exact .inr (.inl ⟨n,rfl,by rw [Nat.zero_add],hn1,by omega,hpd,Zn⟩)
   refine wpS_bind (J8 hL (by omega) (by omega) P1 (fun m st2 P2 Zm hm1 hm2 Yl=>?_))
   dsimp only
   by_cases e:m<M
   ·rw [if_pos e]
    refine wpS_bind (wpS_lift (wpAny_rule ⟨rfl,?_⟩))
    refine wpS_bind (Wn hL (by omega) (by omega) P2 Yl (fun st3 P3 pd3 Zn=>?_))
    rw [if_neg (by decide)]
    have hp3:pendingOf st3 = #[]:=(pd3.trans Zm).trans hp1
    refine wpS_bind (wpS_get ?_)
    rw [show (pendingOf st3).back? = none by rw [hp3];rfl]
    dsimp only
    exact wpS_bind (wpS_modify (wpS_pure (tH _ st3 P3 hp3 (by omega) (by omega) Zn)))
   ·rw [if_neg e]
    have hp3:pendingOf st2 = #[]:=Zm.trans hp1
    refine wpS_bind (wpS_get ?_)
    rw [show (pendingOf st2).back? = none by rw [hp3];rfl]
    dsimp only
    exact wpS_bind (wpS_modify (wpS_pure (tH _ st2 P2 hp3 (by omega) (by omega) Yl)))
  ·dsimp (config:={ zeta:=false }) only
   rw [if_neg (by omega)]
   have hz:=P1.size
   have tH:∀ (n pw:Nat) (st3:SortSt),Pl k ok (arrOf st1) n1 st3→pendingOf st3 = #[(0,n1,0)]→n=a0.size - n1→Up k (arrOf st3) n1 n→∀ Yo,Yo=setPending st3 (((pendingOf st3).modify ((pendingOf st3).size - 1) fun x=>(x.fst,x.2.fst,pw)).push (n1,n,0))→Pl k ok a0 0 Yo∧((1+1=0∧((none:Option Unit),n1+n)=(none,0)∧pendingOf Yo = #[])∨(∃ n2,1+1=1∧((none:Option Unit),n1+n)=(none,n2)∧M≤n2∧n2<a0.size∧pendingOf Yo = #[(0,n2,0)]∧Up k (arrOf Yo) 0 n2)∨(1≤1+1∧((none:Option Unit),n1+n)=(none,a0.size)∧(One k a0 Yo∨Two k a0 Yo))):=fun n pw st3 P3 hp3 hn Zn Yo h4=>by
    subst h4
    have P4:=P1.back P3
    refine ⟨⟨P4.pm,P4.kd,P4.fl,P4.Zk,P4.nd,P4.pre⟩,.inr (.inr ⟨by omega,by rw [hn,show n1+(a0.size - n1)=a0.size by omega],.inr ⟨n1,n,pw,?_,by omega,by omega,by omega,up1.keep P3.pre,Zn⟩⟩)⟩
    show ((pendingOf st3).modify ((pendingOf st3).size - 1) fun x=>(x.fst,x.2.fst,pw)).push (n1,n,0)=_
    rw [hp3,mod_one];rfl
   have Zo:∀ (pw:Nat) (st3:SortSt),pendingOf st3 = #[(0,n1,0)]→∀ (Q':Option Unit×Unit→SortSt→Prop),Q' (none,()) st3→wpS (model prog w) A E s (forIn [0:a0.size] ((none:Option Unit),()) fun x __s=>do
     let __do_lift ←get
     match if (pendingOf __do_lift).size > 1 then (pendingOf __do_lift)[(pendingOf __do_lift).size - 2]? else none with
     | some (fst,aeg,older)=>if older≤pw then pure (ForInStep.done (none,())) else do
      let __do_lift ←mergeAt' ((pendingOf __do_lift).size - 2)
      if (!__do_lift)=true then pure (ForInStep.done (some (),())) else pure (ForInStep.yield (none,()))
     | x=>pure (ForInStep.done (none,()))) Q' st3:=fun pw st3 hp3 Q' hQ=>by
    refine wpS_mono (wpS_forRange (I:=fun _ c st'=>st' = st3∧c=(none,())) (Q:=fun c st'=>st' = st3∧c=(none,())) ?_ (fun _ _ z=>z) ⟨rfl,rfl⟩) (fun c st' z=>by rw [z.1,z.2];exact hQ)
    rintro y c Yo _ _ ⟨rfl,rfl⟩
    refine wpS_bind (wpS_get ?_)
    rw [if_neg (by rw [hp3];show ¬ (1 > 1);omega)]
    exact wpS_pure ⟨rfl,rfl⟩
   refine wpS_bind (J8 hL (by omega) (by omega) (P1.own n1) (fun m st2 P2 Zm hm1 hm2 Yl=>?_))
   dsimp only
   by_cases e:m<M
   ·rw [if_pos e]
    refine wpS_bind (wpS_lift (wpAny_rule ⟨rfl,?_⟩))
    refine wpS_bind (Wn hL (by omega) (by omega) P2 Yl (fun st3 P3 pd3 Zn=>?_))
    rw [if_neg (by decide)]
    have hp3:pendingOf st3 = #[(0,n1,0)]:=(pd3.trans Zm).trans hp1
    refine wpS_bind (wpS_get ?_)
    rw [show (pendingOf st3).back? = some (0,n1,0) by rw [hp3];rfl]
    dsimp only
    refine wpS_bind (Zo _ st3 hp3 _ ?_)
    dsimp only
    exact wpS_bind (wpS_modify (wpS_bind (wpS_modify (wpS_pure (tH _ _ st3 P3 hp3 (by omega) Zn _ rfl)))))
   ·rw [if_neg e]
    have hp3:pendingOf st2 = #[(0,n1,0)]:=Zm.trans hp1
    refine wpS_bind (wpS_get ?_)
    rw [show (pendingOf st2).back? = some (0,n1,0) by rw [hp3];rfl]
    dsimp only
    refine wpS_bind (Zo _ st2 hp3 _ ?_)
    dsimp only
    exact wpS_bind (wpS_modify (wpS_bind (wpS_modify (wpS_pure (tH _ _ st2 P2 hp3 (by omega) Yl _ rfl)))))
  ·dsimp only
   rw [if_pos (Nat.le_refl _)]
   exact wpS_pure ⟨P1,rfl,d⟩
 ·rintro c st1 ⟨P1,⟨hx,rfl,hp1⟩ | ⟨n1,hx,rfl,g1,g2,hp1,up1⟩ | ⟨hx1,rfl,d⟩⟩
  ·omega
  ·omega
  ·exact ⟨P1,rfl,d⟩
 ·rintro c st1 ⟨P1,rfl,d⟩
  dsimp only
  refine wpS_bind (wpS_mono (wpS_forRange (I:=fun x c st'=>Pl k ok a0 0 st'∧c=(none,())∧(One k a0 st'∨(x=0∧Two k a0 st'))) (Q:=fun c st'=>Pl k ok a0 0 st'∧c=(none,())∧One k a0 st') ?_ ?_ ⟨P1,rfl,d.imp id (fun z=>⟨rfl,z⟩)⟩) ?_)
  ·rintro x c st2 _ hx ⟨P2,rfl,o | ⟨rfl,n1,n2,p,hpd,hn,hn1,hn2,u1,u2⟩⟩
   ·refine wpS_bind (wpS_get ?_)
    obtain ⟨p,hpd,up⟩:=id o
    rw [if_pos (by rw [hpd];exact Nat.le_refl 1)]
    exact wpS_pure ⟨P2,rfl,o⟩
   ·refine wpS_bind (wpS_get ?_)
    rw [hpd]
    rw [if_neg (by show ¬ (2≤1);omega)]
    refine wpS_bind (Mp hL hn hn1 hn2 P2 hpd u1 u2 (fun st3 P3 pd3 u3=>?_))
    rw [if_neg (by decide)]
    rw [hn] at pd3 u3
    exact wpS_pure ⟨P3,rfl,.inl ⟨p,pd3,u3⟩⟩
  ·rintro c st2 ⟨P2,rfl,o | ⟨hx,_⟩⟩
   ·exact ⟨P2,rfl,o⟩
   ·omega
  ·rintro c st2 ⟨P2,rfl,p,_,up⟩
   exact wpS_pure (q _ P2 up)
end
end SR
namespace SR
open PySem PyProof.Rows PySem.MeetsSeq PySem.MeetsSeq3
section
variable {prog:Program} {w:World} {A:Around} {E:Value→Shared→Prop} {s:Shared}
theorem J9 {a b:Int} {t u:Tok} {Q:Value→Shared→Prop} (h:Q (.bool (decide (a<b))) s):wpAny (model prog w) A (richCompare .Lt (.int a t) (.int b u)) Q E s :=
 wpAny_richCompare_same (typeIs_int s a t) (typeIs_int s b u) slot_int_lt (call_int_lt ⟨fun z=>(nomatch z),h⟩)
theorem Er (l b:Addr) (xs ys:Array Value) (n n2:Nat) (dd dd2:Option Addr) (sl sl2:Array (Option Value)) {x y:Int} {t u:Tok} (h1:xs[0]? = some (.int x t)) (h2:ys[0]? = some (.int y u)) (hne:x≠y) :
  Meets (Builtin.«list.__eq__.loop» ⟨[.ref l,.ref b,rawInt 0,rawInt 0],[]⟩) (fun _ R s=>s.heap.get? l=some ⟨.type "list",dd,.seq xs n,sl⟩∧s.heap.get? b=some ⟨.type "list",dd2,.seq ys n2,sl2⟩∧R (.ok (.ret (.bool (decide (x<y))))) s):=by
 intro prog w A R s h
 obtain ⟨hp0,g0,d0,tk0,os0⟩:=s
 obtain ⟨ga,gb,q⟩:=h
 wp_walk using AutoSeq1.wpAny_loadPart' ga,AutoSeq1.wpAny_loadPart' gb
 have i1:xs[(0:Int).toNat]? = some (.int x t):=h1
 have i2:ys[(0:Int).toNat]? = some (.int y u):=h2
 rw [i1,i2]
 refine wpAny_bind (wpAny_eqBool_int ?_)
 rw [show (x == y)=false by simpa using hne]
 wp_walk using AutoSeq1.wpAny_loadPart' ga,AutoSeq1.wpAny_loadPart' gb
 rw [i1,i2]
 show wpAny _ _ (richCompare .Lt (.int x t) (.int y u) >>= fun v=>ret v) _ _ _
 exact wpAny_bind (J9 (wpAny_pure q))
theorem HJ (l:Addr) (xs:Array Value) (n:Nat) (dd:Option Addr) (sl:Array (Option Value)) (hi:∀ j (h:j<xs.size),∃ v t,xs[j]=.int v t) (m:Nat):∀ i:Nat,xs.size - i=m →
  Meets (Builtin.«list.__eq__.loop» ⟨[.ref l,.ref l,rawInt i,rawInt 0],[]⟩) (fun _ R s=>s.heap.get? l=some ⟨.type "list",dd,.seq xs n,sl⟩∧R (.ok (.ret (.bool false))) s):=by
 induction m with
 | zero =>
  intro i hm prog w A R s h
  obtain ⟨hp0,g0,d0,tk0,os0⟩:=s
  obtain ⟨ga,q⟩:=h
  wp_walk using AutoSeq1.wpAny_loadPart' ga
  have i1:xs[((i:Nat):Int).toNat]? = none:=by simp;omega
  rw [i1]
  wp_walk using AutoSeq1.wpAny_loadPart' ga
  show R (.ok (.ret (.bool (decide (xs.size<xs.size))))) _
  rw [decide_eq_false (by omega)]
  exact q
 | succ m ih =>
  intro i hm prog w A R s h
  obtain ⟨hp0,g0,d0,tk0,os0⟩:=s
  obtain ⟨ga,q⟩:=h
  wp_walk using AutoSeq1.wpAny_loadPart' ga
  have hlt:i<xs.size:=by omega
  obtain ⟨v,t,e⟩:=hi i hlt
  have i1:xs[((i:Nat):Int).toNat]? = some (.int v t):=by rw [Int.toNat_natCast,Array.getElem?_eq_getElem hlt,e]
  rw [i1]
  refine wpAny_bind (wpAny_eqBool_int ?_)
  rw [show (v == v)=true by simp]
  wp_walk
  rw [show ((i:Int)+1)=((i+1:Nat):Int) from rfl]
  refine ⟨plainId_quiet plain_eq_loop _,codeAny_builtin entry_eq_loop ?_⟩
  rw [Around.under_plainId plain_eq_loop _]
  exact ih (i+1) (by omega) prog w A R _ ⟨ga,q⟩
theorem Zq (l b:Addr) (xs ys:Array Value) (n n2:Nat) (dd dd2:Option Addr) (sl sl2:Array (Option Value)) (r:Bool)
  (g:Meets (Builtin.«list.__eq__.loop» ⟨[.ref l,.ref b,rawInt 0,rawInt 0],[]⟩) (fun _ R s=>s.heap.get? l=some ⟨.type "list",dd,.seq xs n,sl⟩∧s.heap.get? b=some ⟨.type "list",dd2,.seq ys n2,sl2⟩∧R (.ok (.ret (.bool r))) s)) :
  Meets (Builtin.«list.__lt__» ⟨[.ref l,.ref b],[]⟩) (fun _ R s=>s.heap.get? l=some ⟨.type "list",dd,.seq xs n,sl⟩∧s.heap.get? b=some ⟨.type "list",dd2,.seq ys n2,sl2⟩∧R (.ok (.ret (.bool r))) s):=by
 intro prog w A R s h
 obtain ⟨hp0,g0,d0,tk0,os0⟩:=s
 obtain ⟨ga,gb,q⟩:=h
 have sub:=AutoSeq1.sub_list_list
 wp_walk using AutoSeq1.wpAny_loadPart' ga,AutoSeq1.wpAny_loadPart' gb
 refine ⟨plainId_quiet plain_eq_loop _,codeAny_builtin entry_eq_loop ?_⟩
 rw [Around.under_plainId plain_eq_loop _]
 exact g prog w A R _ ⟨ga,gb,q⟩
def IL (h:Heap) (v:Value) (x:Int):Prop:=∃ l xs n dd sl t,v=.ref l∧h.get? l=some ⟨.type "list",dd,.seq xs n,sl⟩∧xs[0]? = some (.int x t)∧∀ j (hj:j<xs.size),∃ z t,xs[j]=.int z t
theorem Ka {v u:Value} {x y:Int} (hu:A.units<cLine) (hv:IL s.heap v x) (hw:IL s.heap u y) (hs:x=y→v=u) {Q:Bool→Shared→Prop} (q:Q (decide (x<y)) s):wpAny (model prog w) A (oneLt' true v u) Q E s:=by
 obtain ⟨l,xs,n,dd,sl,t,rfl,g1,g2,g3⟩:=hv
 obtain ⟨b,ys,n2,dd2,sl2,t2,rfl,f1,f2,f3⟩:=hw
 rw [oneLt'_eq]
 simp only [if_true]
 refine wpAny_bind (wpAny_cRoomFor hu ?_)
 have hT:s.TypeIs (.ref l) "list":=⟨_,g1,rfl⟩
 have go:∀ r,Meets (Builtin.«list.__lt__» ⟨[.ref l,.ref b],[]⟩) (fun _ R s=>s.heap.get? l=some ⟨.type "list",dd,.seq xs n,sl⟩∧s.heap.get? b=some ⟨.type "list",dd2,.seq ys n2,sl2⟩∧R (.ok (.ret (.bool r))) s)→r=decide (x<y)→wpAny (model prog w) A (do
   match ←callSpecialIfBound? (.ref l) "__lt__" [.ref b] with
   | some .notImplemented | none=>rule "list.sort.lt-declined"
   | some r=>return ←truthOfDropped r
   truthOfDropped (←richCompare .Lt (.ref l) (.ref b))) Q E s:=fun r m e=>by
  refine wpAny_bind (wpAny_callSpecialIfBound?_slot hT PySem.F.slot_list_lt (call_meets PySem.F.slot_list_lt hT PySem.F.entry_list_lt (PySem.F.args_list_lt_2 _ _) m ⟨g1,f1,?_⟩))
  exact wpAny_truthy_bool (by rw [e];exact q)
 by_cases e:x=y
 ·have:=hs e
  cases this
  rw [g1] at f1
  cases f1
  refine go false (Zq _ _ _ _ _ _ _ _ _ _ false (fun prog w A R s h=>HJ l xs n dd sl g3 _ 0 rfl prog w A R s ⟨h.1,h.2.2⟩)) ?_
  rw [decide_eq_false (by omega)]
 ·exact go _ (Zq _ _ _ _ _ _ _ _ _ _ _ (Er l b xs ys n n2 dd dd2 sl sl2 g2 f2 e)) rfl
theorem RV {k:Keyed→Int} {ok:Keyed→Prop} (hu:A.units<cLine) (hk:∀ x,ok x→IL s.heap x.1 (k x)) (hs:∀ x y,ok x→ok y→k x=k y→x.1=y.1):zc prog w A E s k ok:=by
 intro x y st Q ox oy kd q
 rw [lt'_eq]
 refine wpS_bind (wpS_get ?_)
 rw [kd,keyLt'_oneType]
 refine wpS_bind (wpS_lift (wpAny_attempt (Ka hu (hk x ox) (hk y oy) (hs x y ox oy) ?_)))
 exact ⟨rfl,wpS_pure q⟩
end
end SR
namespace SR
open PySem PyProof.Rows
theorem IL.move {h h':Heap} {v:Value} {x:Int} (hv:IL h v x) (hk:∀ b o,v=.ref b→h.get? b=some o→h'.get? b=some o):IL h' v x:=by
 obtain ⟨l,xs,n,dd,sl,t,e,g1,g2,g3⟩:=hv
 exact ⟨l,xs,n,dd,sl,t,e,hk l _ e g1,g2,g3⟩
theorem IL.looks {M:Model} {h:Heap} {v:Value} {x:Int} (hv:IL h v x):PySem.W.Looks M h (typeOf v) (.type "list"):=by
 obtain ⟨l,xs,n,dd,sl,t,rfl,g1,g2,g3⟩:=hv
 exact (PySem.W.Looks.ld g1).andThen .now
theorem gA (vs:List Value):(pairsOf vs).toList=vs.map fun v=>(v,v):=by
 rw [pairsOf_toList]
 induction vs with
 | nil=>rfl
 | cons v r ih=>rw [List.zip_cons_cons,List.map_cons,ih]
section
variable {prog:Program} {w:World} {A:Around} {E:Value→Shared→Prop} {s:Shared} {vs:List Value} {k0:Value→Int}
theorem QZ {b:Array Keyed} (hp:b.Perm (pairsOf vs)) (hs:iJ (fun x=>k0 x.1) b.toList):((b.map (·.2)).toList).Perm vs∧(b.map (·.2)).toList.Pairwise (fun u v=>k0 u<k0 v):=by
 have h1:b.toList.Perm (vs.map fun v=>(v,v)):=by rw [←gA];exact hp.toList
 have h2:∀ x∈b.toList,x.1=x.2:=fun x hx=>by
  obtain ⟨v,_,rfl⟩:=List.mem_map.mp (h1.mem_iff.mp hx)
  rfl
 constructor
 ·have:=h1.map (·.2)
  rw [List.map_map] at this
  rw [Array.toList_map]
  exact this.trans (List.Perm.of_eq (List.map_id _))
 ·rw [Array.toList_map,List.pairwise_map]
  exact List.Pairwise.imp_of_mem (fun {x y} hx hy h=>by rw [←h2 x hx,←h2 y hy];exact h) hs
theorem Mq {a:Addr} {n:Nat} {P:PySem.Fin→Shared→Prop} (hu:A.units<cLine) (ho:s.heap.get? a=some (seqObj "list" vs.toArray n)) (hv:∀ v∈vs,IL s.heap v (k0 v)) (hna:∀ v∈vs,v≠.ref a) (nd:(vs.map k0).Nodup) (hz:vs.length<128)
  (q:∀ out:List Value,out.Perm vs→out.Pairwise (fun u v=>k0 u<k0 v)→P (.done (.ret .none)) { s with heap:=sortedHeap s.heap a vs out.toArray }):wpAny (model prog w) A (Builtin.«list.sort» ⟨[.ref a],[]⟩) P E s:=by
 have hlt:a<s.heap.objs.size:=Heap.lt_size ho
 obtain ⟨e1,c1⟩:∃ e1,(s.heap.update a (Obj.mapSeq fun _=>(#[]:Array Value))).get? a=some (seqObj "list" #[] e1):=⟨_,get?_update_seq ho fun _=>#[]⟩
 have c2:(((s.heap.update a (Obj.mapSeq fun _=>(#[]:Array Value))).push (seqObj "tuple" vs.toArray 0)).push (seqObj "list" #[] 0)).get? a=some (seqObj "list" #[] e1):=Heap.get?_push_of_some _ (Heap.get?_push_of_some _ c1)
 have keep:∀ b o,b≠a→s.heap.get? b=some o→(((s.heap.update a (Obj.mapSeq fun _=>(#[]:Array Value))).push (seqObj "tuple" vs.toArray 0)).push (seqObj "list" #[] 0)).get? b=some o:=fun b o hb e =>
  Heap.get?_push_of_some _ (Heap.get?_push_of_some _ (by rw [Heap.get?_update_ne _ _ _ _ hb];exact e))
 have hv2:∀ v∈vs,IL (((s.heap.update a (Obj.mapSeq fun _=>(#[]:Array Value))).push (seqObj "tuple" vs.toArray 0)).push (seqObj "list" #[] 0)) v (k0 v):=fun v hm=>(hv v hm).move fun b o e g=>keep b o (fun z=>hna v hm (by rw [e,z])) g
 have small:vs.length≤sizeLine:=by rw [sizeLine_eq];omega
 have hza:vs.toArray.size=vs.length:=List.size_toArray
 have tH:∀ (st':SortSt),(arrOf st').Perm (pairsOf vs)→iJ (fun x=>k0 x.1) (arrOf st').toList→P (.done (.ret .none)) { s with heap:=sortedHeap s.heap a vs ((arrOf st').map (·.2)) }:=fun st' h1 h2=>by
  obtain ⟨g1,g2⟩:=QZ h1 h2
  have:=q _ g1 g2
  rw [Array.toArray_toList] at this
  exact this
 rw [list_sort_plain]
 refine wpAny_bind (listItems_at ho rfl (wpAny_bind (listUpdate_at ho rfl (wpAny_bind (seqEpoch_at c1 rfl (wpAny_bind (wpAny_newTuple (wpAny_bind (wpAny_newList (wpAny_holding ?_) (Nat.zero_le _))) (by show vs.length≤_;rw [sizeLine_eq];omega))))) (by rw [hza];exact small) (Nat.zero_le _))))
 show wpAny (model prog w) A _ P E (Shared.mk (((s.heap.update a (Obj.mapSeq fun _=>(#[]:Array Value))).push (seqObj "tuple" vs.toArray 0)).push (seqObj "list" #[] 0)) s.gens s.drawn s.toks s.os)
 dsimp only
 by_cases h2:vs.toArray.size<2
 ·rw [if_pos h2,if_pos h2]
  refine wpAny_bind (wpAny_pure ?_)
  rw [StateT.run_pure]
  refine wpAny_bind (wpAny_pure ?_)
  dsimp only
  refine wpAny_bind (seqEpoch_at c2 rfl (wpAny_bind (listUpdate_at c2 rfl ?_ (Nat.zero_le _) (by rw [Array.size_map];show (pairsOf vs).size≤_;rw [pairsOf_size,sizeLine_eq];omega))))
  rw [if_neg (by simp)]
  refine wpAny_pure (tH (SortSt.mk' general' (vs.toArray.zip vs.toArray) #[] 7 none) (Array.Perm.refl _) ?_)
  show iJ _ (pairsOf vs).toList
  rw [gA]
  have h3:vs.length<2:=by rw [←hza];exact h2
  match vs,h3 with
  | [],_=>exact List.Pairwise.nil
  | [v],_=>exact List.pairwise_singleton _ _
 ·rw [if_neg h2,if_neg h2]
  refine wpAny_bind (PySem.W.kas_kind (T:=.type "list") (by omega) (fun v hm=>(hv2 v hm).looks) (by decide) (by decide) ?_)
  have kp:(pairsOf vs).toList.map (fun x=>k0 x.1)=vs.map k0:=by rw [gA,List.map_map];rfl
  have Wr:∀ x∈(pairsOf vs).toList,x.1∈vs:=fun x hx=>by
   rw [gA] at hx
   obtain ⟨v,hm,rfl⟩:=List.mem_map.mp hx
   exact hm
  have adt:∀ u∈vs,∀ v∈vs,k0 u=k0 v→u=v:=fun u hm v hm2 e=>by
   obtain ⟨i,hi⟩:=List.mem_iff_getElem?.mp hm
   obtain ⟨j,hj⟩:=List.mem_iff_getElem?.mp hm2
   have l1:(vs.map k0)[i]? = some (k0 u):=by rw [List.getElem?_map,hi];rfl
   have l2:(vs.map k0)[j]? = some (k0 u):=by rw [List.getElem?_map,hj,e];rfl
   have e3:=(List.getElem?_inj (List.getElem?_eq_some_iff.mp l1).1 nd).mp (l1.trans l2.symm)
   rw [e3,hj] at hi
   exact (Option.some.inj hi).symm
  have hL:zc prog w A E (Shared.mk (((s.heap.update a (Obj.mapSeq fun _=>(#[]:Array Value))).push (seqObj "tuple" vs.toArray 0)).push (seqObj "list" #[] 0)) s.gens s.drawn s.toks s.os) (fun x=>k0 x.1) (fun x=>x∈(pairsOf vs).toList) :=
   RV hu (fun x hx=>hv2 x.1 (Wr x hx)) (fun x y hx hy e=>adt x.1 (Wr x hx) y.1 (Wr y hy) e)
  have run:=QX (a0:=pairsOf vs) (st:=SortSt.mk' oneType' (vs.toArray.zip vs.toArray) #[] 7 none) (Q:=fun _ st'=>(arrOf st').Perm (pairsOf vs)∧failedOf st' = none∧iJ (fun x=>k0 x.1) (arrOf st').toList) hL (by rw [pairsOf_size];omega) (by rw [pairsOf_size];exact hz) ⟨Array.Perm.refl _,rfl,rfl,fun x hx=>hx,by rw [kp];exact nd,fun _ _=>rfl⟩ rfl (fun st' P' up=>⟨P'.pm,P'.fl,by
    have:=HF (lo:=0) up (by rw [P'.size];omega)
    rw [List.drop_zero,List.take_of_length_le (by rw [Array.length_toList,P'.size];exact Nat.le_refl _)] at this
    exact this⟩)
  refine wpAny_bind (wpAny_mono run ?_ fun _ _ e=>e)
  rintro ⟨⟨⟩,st'⟩ s' ⟨rfl,g1,g2,g3⟩
  dsimp only
  refine wpAny_bind (seqEpoch_at c2 rfl (wpAny_bind (listUpdate_at c2 rfl ?_ (Nat.zero_le _) (by rw [Array.size_map,g1.size_eq,pairsOf_size,sizeLine_eq];omega))))
  rw [g2]
  dsimp only
  rw [if_neg (by simp)]
  exact wpAny_pure (tH st' g1 g3)
theorem HN {l:Addr} {Q:Value→Shared→Prop} (hu:A.units+2<cLine) (hl:s.heap.IsList l vs.toArray) (hv:∀ v∈vs,IL s.heap v (k0 v)) (nd:(vs.map k0).Nodup) (hz:vs.length<128)
  (q:∀ out:List Value,out.Perm vs→out.Pairwise (fun u v=>k0 u<k0 v)→Q (.ref (s.heap.objs.size+1)) { s with heap:=sortedAll s.heap vs out.toArray }):wpAny (model prog w) A (call (.builtin "sorted") [.ref l]) Q E s:=by
 refine Calls.call_function_entry kind_sorted plain_sorted entry_sorted (args_sorted1 _) ?_
 unfold Builtin.«sorted»
 have small:vs.length≤sizeLine:=by rw [sizeLine_eq];omega
 refine wpAny_bind (m:=checkCount "sorted" 1 1 _) (wpAny_pure (wpAny_bind (collect_list hl (wpAny_bind (wpAny_newList ?_ (by rw [sizeLine_eq];omega))) (by rw [sizeLine_eq];omega))))
 have zs:((s.heap.push (seqObj "list" #[] 0)).update s.heap.objs.size (Obj.mapSeq (· ++ vs.toArray))).objs.size=s.heap.objs.size+1:=by rw [Heap.size_update,size_push']
 have g:(((s.heap.push (seqObj "list" #[] 0)).update s.heap.objs.size (Obj.mapSeq (· ++ vs.toArray))).push (seqObj "list" vs.toArray 0)).get? (s.heap.objs.size+1)=some (seqObj "list" vs.toArray 0):=by rw [←zs];exact Heap.get?_push_size _ rfl
 have keep:∀ b o,s.heap.get? b=some o→(((s.heap.push (seqObj "list" #[] 0)).update s.heap.objs.size (Obj.mapSeq (· ++ vs.toArray))).push (seqObj "list" vs.toArray 0)).get? b=some o:=fun b o e=>by
  have hb:b≠s.heap.objs.size:=Nat.ne_of_lt (Heap.lt_size e)
  exact Heap.get?_push_of_some _ (by rw [Heap.get?_update_ne _ _ _ _ hb];exact Heap.get?_push_of_some _ e)
 have far:∀ v∈vs,v≠.ref (s.heap.objs.size+1):=fun v hm z=>by
  obtain ⟨b,xs,n,dd,sl,t,e,g1,_⟩:=hv v hm
  rw [e] at z
  cases z
  exact Nat.lt_irrefl _ (Nat.lt_of_succ_lt (Heap.lt_size g1))
 show wpAny _ _ _ _ _ (Shared.mk (((s.heap.push (seqObj "list" #[] 0)).update s.heap.objs.size (Obj.mapSeq (· ++ vs.toArray))).push (seqObj "list" vs.toArray 0)) s.gens s.drawn s.toks s.os)
 rw [zs]
 refine wpAny_bind (wpAny_holding (wpAny_call_entry slot_list_sort ⟨_,g,rfl⟩ entry_list_sort (Mq (k0:=k0) (by show A.units+1+1<cLine;omega) g (fun v hm=>(hv v hm).move fun b o _ e=>keep b o e) far nd hz fun out h1 h2=>⟨_,rfl,wpAny_pure ⟨_,rfl,q out h1 h2⟩⟩) (args_list_sort _)))
end
end SR
namespace L2
open PySem PySem.Spec PyProof.Rows
def Mr:V→Int
 | .int i=>i
 | _=>0
def mU (H:Hp):Value→Addr×List Int
 | .ref b=>(b,match H b with
  | some (.lst xs)=>xs.map Mr
  | _=>[])
 | _=>(0,[])
def Ws:List V→Hp→VK→Prop:=fun xs H Q=>∃ (a:Addr) (ls:List (Addr×List Int)),xs=[.ref a]∧H a=some (.lst (ls.map fun p=>V.ref p.1))∧(∀ p∈ls,p.2≠[]∧H p.1=some (.lst (p.2.map V.int)))∧(ls.map fun p=>p.2.headD 0).Nodup∧ls.length<128 ∧
 ∀ (out:List (Addr×List Int)) (l:Addr),out.Perm ls→out.Pairwise (fun p q=>p.2.headD 0<q.2.headD 0)→H l=none→Q (.ref l) (upd H l (.lst (out.map fun p=>V.ref p.1)))
theorem Bt (xs:List Int):(xs.map V.int).map Mr=xs:=by
 rw [List.map_map]
 exact List.map_id _
theorem zj {α:Type} (f:α→Addr):∀ {ls:List α} {us:List Value},Vals (ls.map fun p=>V.ref (f p)) us→us=ls.map fun p=>Value.ref (f p)
 | [],us,h=>by cases h;rfl
 | p::r,us,h=>by
  cases h with
  | cons h1 h2 =>
   rw [List.map_cons,zj f h2]
   congr 1
theorem GJ {α:Type} (f:α→Addr):∀ (ls:List α),Vals (ls.map fun p=>V.ref (f p)) (ls.map fun p=>Value.ref (f p))
 | []=>.nil
 | p::r=>.cons rfl (GJ f r)
theorem xr:∀ {xs:List Int} {us:List Value},Vals (xs.map V.int) us→us.length=xs.length∧∀ (j:Nat) (x:Int),xs[j]? = some x→∃ t,us[j]? = some (.int x t)
 | [],us,h=>by cases h;exact ⟨rfl,fun j x e=>by simp at e⟩
 | x::r,us,h=>by
  cases h with
  | @cons _ _ u us' h1 h2 =>
   obtain ⟨t,rfl⟩:=h1
   obtain ⟨g1,g2⟩:=xr h2
   refine ⟨by rw [List.length_cons,List.length_cons,g1],fun j y e=>?_⟩
   cases j with
   | zero=>exact ⟨t,by simp at e;rw [e];rfl⟩
   | succ j=>exact g2 j y (by simpa using e)
theorem Mt {A:Around} {k:Nat} (hr:Room k A):A.units+2<cLine:=by have:=hr.un;omega
section
variable {X:Cx}
theorem Mu (hu:X.A.units+2<cLine):CallR X (.builtin "sorted") Ws:=by
 intro pins s σ H xs us Q I r h
 obtain ⟨a,ls,rfl,ha,hls,nd,hz,q⟩:=h
 obtain ⟨u,rfl,rx⟩:=vals1 r
 cases rx
 obtain ⟨_,its,n,rv,hget⟩:=(show ObjOk X.prog X.w H s.heap a (.lst (ls.map fun p=>V.ref p.1)) from I.hok a _ ha)
 have e:=zj (fun p:Addr×List Int=>p.1) rv
 subst e
 have un:∀ p∈ls,mU H (.ref p.1)=p:=fun p hp=>by
  show (p.1,(match H p.1 with
   | some (.lst xs)=>xs.map Mr
   | _=>[]))=p
  rw [(hls p hp).2]
  show (p.1,(p.2.map V.int).map Mr)=p
  rw [Bt]
 have il:∀ p∈ls,SR.IL s.heap (.ref p.1) ((mU H (.ref p.1)).2.headD 0):=fun p hp=>by
  rw [un p hp]
  obtain ⟨ne,hH⟩:=hls p hp
  obtain ⟨_,us,c,rv2,g⟩:=(show ObjOk X.prog X.w H s.heap p.1 (.lst (p.2.map V.int)) from I.hok p.1 _ hH)
  obtain ⟨g1,g2⟩:=xr rv2
  cases hp2:p.2 with
  | nil=>exact absurd hp2 ne
  | cons x r2 =>
   obtain ⟨t,ht⟩:=g2 0 x (by rw [hp2];rfl)
   refine ⟨p.1,us.toArray,c,none,#[],t,rfl,g,by simpa using ht,fun j hj=>?_⟩
   have hj':j<p.2.length:=by rw [←g1];simpa using hj
   obtain ⟨t2,h2⟩:=g2 j p.2[j] (by simp [hj'])
   refine ⟨p.2[j],t2,?_⟩
   rw [←Option.some_inj,←h2]
   simp
 have nd2:((ls.map fun p=>Value.ref p.1).map fun v=>(mU H v).2.headD 0).Nodup:=by
  rw [List.map_map]
  have e2:ls.map ((fun v=>(mU H v).2.headD 0) ∘ fun p=>Value.ref p.1)=ls.map fun p=>p.2.headD 0:=List.map_congr_left fun p hp=>by
   show (mU H (.ref p.1)).2.headD 0=_
   rw [un p hp]
  rw [e2];exact nd
 refine SR.HN (k0:=fun v=>(mU H v).2.headD 0) hu ⟨_,hget,rfl,n,rfl⟩ (fun v hv=>?_) nd2 (by rw [List.length_map];exact hz) (fun out h1 h2=>?_)
 ·obtain ⟨p,hp,rfl⟩:=List.mem_map.mp hv
  exact il p hp
 ·have mem:∀ v∈out,∃ p∈ls,v=.ref p.1:=fun v hv=>by
   obtain ⟨p,hp,e⟩:=List.mem_map.mp (h1.mem_iff.mp hv)
   exact ⟨p,hp,e.symm⟩
  have o1:(out.map (mU H)).Perm ls:=by
   refine (h1.map (mU H)).trans (List.Perm.of_eq ?_)
   rw [List.map_map]
   exact (List.map_congr_left fun p hp=>un p hp).trans (List.map_id _)
  have o2:(out.map (mU H)).Pairwise (fun p q=>p.2.headD 0<q.2.headD 0):=List.pairwise_map.mpr h2
  have o3:out=(out.map (mU H)).map fun p=>Value.ref p.1:=by
   rw [List.map_map]
   refine ((List.map_congr_left fun v hv=>?_).trans (List.map_id _)).symm
   obtain ⟨p,hp,rfl⟩:=mem v hv
   show Value.ref (mU H (.ref p.1)).1=_
   rw [un p hp];rfl
  have zs:((s.heap.push (seqObj "list" #[] 0)).update s.heap.objs.size (Obj.mapSeq (· ++ (ls.map fun p=>Value.ref p.1).toArray))).objs.size=s.heap.objs.size+1:=by rw [Heap.size_update,size_push']
  have g0:(((s.heap.push (seqObj "list" #[] 0)).update s.heap.objs.size (Obj.mapSeq (· ++ (ls.map fun p=>Value.ref p.1).toArray))).push (seqObj "list" (ls.map fun p=>Value.ref p.1).toArray 0)).get? (s.heap.objs.size+1)=some (seqObj "list" (ls.map fun p=>Value.ref p.1).toArray 0):=by rw [←zs];exact Heap.get?_push_size _ rfl
  have keep:∀ b o,s.heap.get? b=some o→(sortedAll s.heap (ls.map fun p=>Value.ref p.1) out.toArray).get? b=some o:=fun b o e=>by
   have hb:b≠s.heap.objs.size:=Nat.ne_of_lt (Heap.lt_size e)
   have hb1:b≠s.heap.objs.size+1:=Nat.ne_of_lt (Nat.lt_succ_of_lt (Heap.lt_size e))
   unfold sortedAll sortedHeap
   rw [Heap.get?_update_ne _ _ _ _ hb1]
   refine Heap.get?_push_of_some _ (Heap.get?_push_of_some _ ?_)
   rw [Heap.get?_update_ne _ _ _ _ hb1]
   refine Heap.get?_push_of_some _ ?_
   rw [Heap.get?_update_ne _ _ _ _ hb]
   exact Heap.get?_push_of_some _ e
  obtain ⟨c,hc⟩:∃ c,(sortedAll s.heap (ls.map fun p=>Value.ref p.1) out.toArray).get? (s.heap.objs.size+1)=some (seqObj "list" out.toArray c):=by
   unfold sortedAll sortedHeap
   refine ⟨_,get?_update_seq (Heap.get?_push_of_some _ (Heap.get?_push_of_some _ (get?_update_seq g0 fun _=>#[]))) fun _=>out.toArray⟩
  have fr:H (s.heap.objs.size+1)=none:=I.hok.fresh (Nat.le_succ _)
  refine ⟨.ref (s.heap.objs.size+1),_,I.laid (t':=s.toks) keep (Nat.le_succ _) (show ObjOk X.prog X.w _ _ _ (.lst _) from ⟨?_,out,c,?_,hc⟩),rfl,q _ _ o1 o2 fr⟩
  ·rw [List.length_map,o1.length_eq,sizeLine_eq];omega
  ·have:=GJ (fun p:Addr×List Int=>p.1) (out.map (mU H))
   rw [←o3] at this
   exact this
theorem GK (a:Addr) (H:Hp) (Q:VK):Ws [.ref a] H Q=∃ ls:List (Addr×List Int),H a=some (.lst (ls.map fun p=>V.ref p.1))∧(∀ p∈ls,p.2≠[]∧H p.1=some (.lst (p.2.map V.int)))∧(ls.map fun p=>p.2.headD 0).Nodup∧ls.length<128 ∧
  ∀ (out:List (Addr×List Int)) (l:Addr),out.Perm ls→out.Pairwise (fun p q=>p.2.headD 0<q.2.headD 0)→H l=none→Q (.ref l) (upd H l (.lst (out.map fun p=>V.ref p.1))):=by
 refine propext ⟨fun ⟨_,ls,e,h⟩=>?_,fun ⟨ls,h⟩=>⟨a,ls,rfl,h⟩⟩
 cases e;exact ⟨ls,h⟩
end
end L2
namespace L2
open PySem PySem.Spec PyProof.Rows
def Q0:V→List V→Hp→VK→Prop:=fun x vs H Q=>∃ (a r:Addr) (ls:List (Addr×List Int)) (ns:List Int) (j:Nat),x=.ref a∧vs=[.ref r]∧H a=some (.lst (ls.map fun p=>V.ref p.1))∧(∀ p∈ls,H p.1=some (.lst (p.2.map V.int)))∧H r=some (.lst (ns.map V.int))∧(ls.map (·.2))[j]? = some ns∧(∀ m,m<j→(ls.map (·.2))[m]? ≠ some ns)∧Q (.int (j:Nat)) H
theorem CG (a r:Addr) (H:Hp) (Q:VK):Q0 (.ref a) [.ref r] H Q=∃ ls:List (Addr×List Int),H a=some (.lst (ls.map fun p=>V.ref p.1))∧(∀ p∈ls,H p.1=some (.lst (p.2.map V.int)))∧∃ ns:List Int,H r=some (.lst (ns.map V.int))∧∃ j:Nat,(ls.map (·.2))[j]? = some ns∧(∀ m,m<j→(ls.map (·.2))[m]? ≠ some ns)∧Q (.int (j:Nat)) H:=by
 refine propext ⟨fun ⟨_,_,ls,ns,j,e1,e2,h1,h2,h3,h4,h5,q⟩=>?_,fun ⟨ls,h1,h2,ns,h3,j,h4,h5,q⟩=>⟨a,r,ls,ns,j,rfl,rfl,h1,h2,h3,h4,h5,q⟩⟩
 cases e1;cases e2;exact ⟨ls,h1,h2,ns,h3,j,h4,h5,q⟩
theorem RW {A:Around} {s:Shared} {l b:Addr} {xs ys:List Int} {us vs:List Value} (hu:A.units<cLine) (hl:s.heap.IsList l us.toArray) (hb:s.heap.IsList b vs.toArray) (r1:Vals (xs.map V.int) us) (r2:Vals (ys.map V.int) vs) (hsame:l=b→xs=ys):SeqAt.EqAt A s (.ref l) (.ref b) (decide (xs=ys)):=by
 by_cases e:l=b
 ·subst e
  rw [hsame rfl,decide_eq_true rfl]
  intro prog w E Q hq
  unfold eqBool
  refine wpAny_holding ?_
  refine wpAny_ite_split (fun _=>wpAny_pure (M:=model prog w) (E:=E) hq) (fun z=>absurd (by simp) z)
 ·obtain ⟨g1,g2⟩:=xr r1
  obtain ⟨g3,g4⟩:=xr r2
  refine SeqAt.EqAt.of_refs e ?_
  by_cases hlen:xs.length=ys.length
  ·have:=SeqAt.RcAt.lists (A:=A) (e:=fun j=>decide (xs[j]? = ys[j]?)) hl hb (by simp [g1,g3,hlen]) hu (fun j h1 h2=>?_)
   ·have e2:((List.range us.toArray.size).all fun j=>decide (xs[j]? = ys[j]?))=decide (xs=ys):=by
     by_cases e3:xs=ys
     ·subst e3;simp
     ·rw [decide_eq_false e3]
      rw [List.all_eq_false]
      have:∃ j:Nat,¬ xs[j]? = ys[j]?:=by
       apply Classical.byContradiction
       intro z
       exact e3 (List.ext_getElem? fun i=>Classical.byContradiction fun q=>z ⟨i,q⟩)
      obtain ⟨j,hj⟩:=this
      have hjl:j<xs.length:=by
       apply Nat.lt_of_not_le
       intro z
       exact hj (by rw [List.getElem?_eq_none z,List.getElem?_eq_none (by omega)])
      exact ⟨j,List.mem_range.mpr (by simpa [g1] using hjl),by simpa using hj⟩
    rw [e2] at this;exact this
   ·have hj1:j<xs.length:=by simpa [g1] using h1
    have hj2:j<ys.length:=by omega
    obtain ⟨t,ht⟩:=g2 j xs[j] (by simp [hj1])
    obtain ⟨t2,RP⟩:=g4 j ys[j] (by simp [hj2])
    have a1:us.toArray[j]=.int xs[j] t:=by rw [←Option.some_inj,←ht];simp
    have a2:vs.toArray[j]=.int ys[j] t2:=by rw [←Option.some_inj,←RP];simp
    rw [a1,a2]
    have:=SeqAt.EqAt.int_int (A:=A.in1) (s:=s) xs[j] t ys[j] t2
    have e4:(xs[j] == ys[j])=decide (xs[j]? = ys[j]?):=by
     rw [List.getElem?_eq_getElem hj1,List.getElem?_eq_getElem hj2]
     by_cases q:xs[j]=ys[j]
     ·simp [q]
     ·simp [q]
    rw [e4] at this
    exact this
  ·rw [decide_eq_false fun z=>hlen (by rw [z])]
   exact SeqAt.RcAt.lists_lengths hl hb (by simp [g1,g3,hlen]) hu
section
variable {X:Cx}
theorem RX (hu:X.A.units+2<cLine):YL X "list.index" Q0:=by
 intro pins s σ H x vs v us Q I rx rv h
 obtain ⟨a,r,ls,ns,j,rfl,rfl,hH,hls,hr,hj,hno,q⟩:=h
 cases rx
 obtain ⟨u,rfl,ru⟩:=rv.one
 cases ru
 obtain ⟨z,its,n,r1,hl,e⟩:=I.lstM hH
 have e0:=zj (fun p:Addr×List Int=>p.1) r1
 subst e0
 have hjl:j<ls.length:=by have:=(List.getElem?_eq_some_iff.mp hj).1;simpa using this
 have h63:=line63
 rw [List.length_map] at z
 have un:∀ p∈ls,mU H (.ref p.1)=p:=fun p hp=>by
  show (p.1,(match H p.1 with
   | some (.lst xs)=>xs.map Mr
   | _=>[]))=p
  rw [hls p hp]
  show (p.1,(p.2.map V.int).map Mr)=p
  rw [Bt]
 have at_:∀ (m:Nat) (hm:m<(ls.map fun p=>Value.ref p.1).toArray.size),∃ p∈ls,ls[m]? = some p∧(ls.map fun p=>Value.ref p.1).toArray[m]=.ref p.1:=fun m hm=>by
  have hm':m<ls.length:=by simpa using hm
  exact ⟨ls[m],List.getElem_mem hm',List.getElem?_eq_getElem hm',by simp⟩
 refine call_meets F.slot_list_index ⟨_,e,rfl⟩ F.entry_list_index (F.args_list_index_2 _ _) (SeqAt.list_indexAt a (ls.map fun p=>Value.ref p.1).toArray n none #[] (.ref r) (fun y=>decide ((mU H y).2=ns)) j (by simpa using hjl) (by omega) ?_ ?_) ⟨e,?_,?_⟩
 ·obtain ⟨p,hp,h1,h2⟩:=at_ j (by simpa using hjl)
  rw [h2,un p hp]
  rw [List.getElem?_map,h1] at hj
  exact decide_eq_true (Option.some.inj hj)
 ·intro m hm hmj
  obtain ⟨p,hp,h1,h2⟩:=at_ m hm
  rw [h2,un p hp]
  refine decide_eq_false fun z=>hno m hmj ?_
  rw [List.getElem?_map,h1]
  exact congrArg some z
 ·intro y hy
  have hy':y∈ls.map fun p=>Value.ref p.1:=by simpa using hy
  obtain ⟨p,hp,rfl⟩:=List.mem_map.mp hy'
  obtain ⟨_,us1,c1,rv1,g1⟩:=(show ObjOk X.prog X.w H s.heap p.1 (.lst (p.2.map V.int)) from I.hok p.1 _ (hls p hp))
  obtain ⟨_,us2,c2,rv2,g2⟩:=(show ObjOk X.prog X.w H s.heap r (.lst (ns.map V.int)) from I.hok r _ hr)
  have:=RW (A:=X.A.in1) (s:=s) (l:=p.1) (b:=r) (xs:=p.2) (ys:=ns) (us:=us1) (vs:=us2) (by show X.A.units+1<cLine;omega) ⟨_,g1,rfl,_,rfl⟩ ⟨_,g2,rfl,_,rfl⟩ rv1 rv2 (fun z=>by
   have h1:=hls p hp
   rw [z,hr] at h1
   have h2:ns.map V.int=p.2.map V.int:=by have:=Option.some.inj h1;injection this
   have h3:=congrArg (List.map Mr) h2
   rw [Bt,Bt] at h3
   exact h3.symm)
  rw [un p hp]
  exact this
 ·exact ⟨.int (j:Nat),H,I.tok _,⟨_,rfl⟩,q⟩
end
end L2
namespace SD
open PySem PyProof.Rows
def HS (xs:Array Nat):Prop:=∀ (i j x y:Nat),i<j→xs[i]? = some x→xs[j]? = some y→x<y
theorem CJ {xs:Array Nat} {j:Nat} (R:HS xs):∀ (fuel lo hi:Nat),hi - lo≤fuel→lo≤hi→hi≤xs.size→(∀ i x,i<lo→xs[i]? = some x→x<j)→(∀ i x,hi≤i→xs[i]? = some x→j≤x) →
  SetTable.below.go xs j fuel lo hi≤xs.size∧(∀ i x,i<SetTable.below.go xs j fuel lo hi→xs[i]? = some x→x<j)∧∀ i x,SetTable.below.go xs j fuel lo hi≤i→xs[i]? = some x→j≤x
 | 0,lo,hi,hf,hl,hh,h1,h2=>by
  have:lo=hi:=by omega
  subst this
  exact ⟨hh,h1,h2⟩
 | fuel+1,lo,hi,hf,hl,hh,h1,h2=>by
  unfold SetTable.below.go
  by_cases e:lo<hi
  ·rw [if_pos e]
   dsimp only
   have hm:(lo+hi) / 2<xs.size:=by omega
   have hx:xs[(lo+hi) / 2]? = some (xs[(lo+hi) / 2]'hm):=Array.getElem?_eq_getElem hm
   have hg:xs.getD ((lo+hi) / 2) j=xs[(lo+hi) / 2]'hm:=by rw [Array.getD_eq_getD_getElem?,hx];rfl
   rw [hg]
   by_cases e2:xs[(lo+hi) / 2]'hm<j
   ·rw [if_pos e2]
    refine CJ R fuel _ hi (by omega) (by omega) hh (fun i x hi' q=>?_) h2
    by_cases e3:i=(lo+hi) / 2
    ·subst e3;rw [hx] at q;cases q;exact e2
    ·have:=R i _ x _ (by omega) q hx;omega
   ·rw [if_neg e2]
    refine CJ R fuel lo _ (by omega) (by omega) (by omega) h1 (fun i x hi' q=>?_)
    by_cases e3:i=(lo+hi) / 2
    ·subst e3;rw [hx] at q;cases q;omega
    ·have:=R _ i _ x (by omega) hx q;omega
  ·rw [if_neg e]
   have:lo=hi:=by omega
   subst this
   exact ⟨hh,h1,h2⟩
theorem Kc {xs:Array Nat} (R:HS xs) (j:Nat):SetTable.below xs j≤xs.size∧(∀ i x,i<SetTable.below xs j→xs[i]? = some x→x<j)∧∀ i x,SetTable.below xs j≤i→xs[i]? = some x→j≤x :=
 CJ R xs.size 0 xs.size (by omega) (Nat.zero_le _) (Nat.le_refl _) (fun i x h=>by omega) (fun i x h q=>by rw [Array.getElem?_eq_none h] at q;cases q)
theorem zm {l:List Nat}:HS l.toArray ↔ l.Pairwise (· < ·):=by
 rw [List.pairwise_iff_getElem]
 constructor
 ·intro h i j hi hj hij
  exact h i j _ _ hij (by simp [hi]) (by simp [hj])
 ·intro h i j x y hij hx hy
  have hi:i<l.length:=by have:=(Array.getElem?_eq_some_iff.mp hx).1;simpa using this
  have hj:j<l.length:=by have:=(Array.getElem?_eq_some_iff.mp hy).1;simpa using this
  have a1:l[i]=x:=by simpa [hi] using hx
  have a2:l[j]=y:=by simpa [hj] using hy
  have:=h i j hi hj hij
  rw [a1,a2] at this;exact this
theorem Kd {xs:Array Nat} (R:HS xs) {j:Nat} (hn:xs[SetTable.below xs j]? ≠ some j):HS (SetTable.insertAt xs (SetTable.below xs j) j):=by
 obtain ⟨h0,h1,h2⟩:=Kc R j
 have h3:∀ i x,SetTable.below xs j≤i→xs[i]? = some x→j<x:=fun i x hi q=>by
  have:=h2 i x hi q
  by_cases e:x=j
  ·subst e
   by_cases e2:i=SetTable.below xs x
   ·subst e2;exact absurd q hn
   ·have hp:SetTable.below xs x<xs.size:=by have:=(Array.getElem?_eq_some_iff.mp q).1;omega
    have hx:=Array.getElem?_eq_getElem hp
    have:=R _ i _ x (by omega) hx q
    have:=h2 _ _ (Nat.le_refl _) hx
    omega
  ·omega
 have e:SetTable.insertAt xs (SetTable.below xs j) j=(xs.toList.take (SetTable.below xs j)++j::xs.toList.drop (SetTable.below xs j)).toArray:=by
  apply Array.toList_inj.mp
  rw [SetTable.toList_insertAt]
 rw [e,zm]
 have R':xs.toList.Pairwise (· < ·):=zm.mp (by simpa using R)
 refine List.pairwise_append.mpr ⟨R'.sublist (List.take_sublist _ _),List.pairwise_cons.mpr ⟨fun x hx=>?_,R'.sublist (List.drop_sublist _ _)⟩,fun x hx y hy=>?_⟩
 ·obtain ⟨i,hi,q⟩:=List.mem_drop_iff_getElem.mp hx
  exact h3 (SetTable.below xs j+i) x (by omega) (by rw [←Array.getElem?_toList,List.getElem?_eq_getElem (show SetTable.below xs j+i<xs.toList.length by omega),q])
 ·obtain ⟨i,hi,q⟩:=List.mem_take_iff_getElem.mp hx
  have hx':=h1 i x (by omega) (by rw [←Array.getElem?_toList,List.getElem?_eq_getElem (show i<xs.toList.length by omega),q])
  rcases List.mem_cons.mp hy with z | z
  ·omega
  ·obtain ⟨i2,hi2,q2⟩:=List.mem_drop_iff_getElem.mp z
   have:=h3 (SetTable.below xs j+i2) y (by omega) (by rw [←Array.getElem?_toList,List.getElem?_eq_getElem (show SetTable.below xs j+i2<xs.toList.length by omega),q2])
   omega
structure TI (b:Bool) (t:SetTable):Prop where
 rise:HS t.place
 nod:t.dummies = #[]
 led:t.led=b
theorem TI.standIn {b:Bool} {t:SetTable} (h:t.led=b) (n:Nat):TI b (t.standIn n):=⟨by
 show HS (Array.range n)
 intro i j x y hij hx hy
 rw [Array.getElem?_range] at hx hy
 split at hx <;> cases hx
 split at hy <;> cases hy
 exact hij,rfl,h⟩
theorem Ke {t:SetTable} (hn:t.dummies = #[]) (hashAt:Nat→Int) (h:Int):∀ (fuel:Nat) (p:SetTable.Probe),p.dummy=none→∀ j d,SetTable.probe.go t hashAt h fuel p=some (.empty j d)→d=none∧t.slot j=.empty
 | 0,p,hp,j,d,e=>by unfold SetTable.probe.go at e;cases e
 | fuel+1,p,hp,j,d,e=>by
  unfold SetTable.probe.go at e
  split at e
  ·rename_i q
   cases e
   exact ⟨hp,q⟩
  ·rename_i q
   unfold SetTable.slot at q
   dsimp only at q
   split at q
   ·cases q
   ·rw [hn] at q
    split at q
    ·rename_i z
     exact absurd z (by simp [SetTable.has])
    ·cases q
  ·split at e
   ·cases e
   ·refine Ke hn hashAt h fuel _ ?_ j d e
    unfold SetTable.advance
    split
    ·exact hp
    ·exact hp
theorem Mv {t:SetTable} {j:Nat} (h:t.slot j=.empty):t.place[SetTable.below t.place j]? ≠ some j:=by
 intro z
 unfold SetTable.slot at h
 dsimp only at h
 rw [z] at h
 simp at h
theorem TI.layNew {b:Bool} {t:SetTable} (I:TI b t) (es:Array (Int×Value)) (h:Int) (x:Value):TI b (layNew t es h x).2.1:=by
 unfold PySem.layNew
 split
 ·rename_i slot wd e
  dsimp only
  have hs:t.slot slot=.empty:=by
   unfold SetTable.freeSlot at e
   split at e
   ·rename_i j d q
    obtain ⟨rfl,h2⟩:=Ke I.nod _ _ _ _ rfl _ _ (show SetTable.probe.go t _ _ _ _=_ from q)
    cases e;exact h2
   ·cases e
  unfold SetTable.orStandIn
  split
  ·refine ⟨Kd I.rise (Mv hs),?_,I.led⟩
   show (if SetTable.has t.dummies slot then _ else t.dummies) = #[]
   rw [I.nod]
   simp [SetTable.has]
  ·exact TI.standIn I.led _
 ·exact TI.standIn I.led _
theorem TI.relayAll {b:Bool} {t:SetTable} (I:TI b t) (es:Array (Int×Value)) (wanted:Nat):TI b (relayAll t es wanted).2.1:=by
 unfold PySem.relayAll
 split
 ·rename_i t' order e
  dsimp only
  split
  ·unfold SetTable.relaid SetTable.laid at e
   rw [Option.bind_eq_bind,Option.bind_eq_some_iff] at e
   obtain ⟨owner,_,e⟩:=e
   cases e
   refine ⟨?_,rfl,I.led⟩
   show HS (List.toArray _)
   rw [zm,List.pairwise_map]
   rw [List.pairwise_filterMap]
   refine List.pairwise_lt_range.imp fun {x y} hxy a ha c hc=>?_
   rw [Option.map_eq_some_iff] at ha hc
   obtain ⟨_,_,rfl⟩:=ha
   obtain ⟨_,_,rfl⟩:=hc
   exact hxy
  ·exact TI.standIn I.led _
 ·exact TI.standIn I.led _
theorem TI.Wt {b:Bool} {t:SetTable} (I:TI b t):TI b { t with plain:=false }:=⟨I.rise,I.nod,I.led⟩
end SD
namespace SD
open PySem PyProof.Rows
section
variable {prog:Program} {w:World} {A:Around} {E:Value→Shared→Prop} {s:Shared}
abbrev iK (prog:Program) (w:World):=intKind prog w
def pD (prog:Program) (w:World) (h:Heap) (a:Addr) (S:Int→Bool) (n:Nat) (b:Bool):Prop :=
 ∃ o es ep t,h.get? a=some o∧o.ExactSet∧o.data=.set es ep t∧ElemsOf (iK prog w) es.toList∧(∀ k,S k=true ↔ ∃ e∈es.toList,(iK prog w).is k e.2=true)∧es.size<scanBound∧t.fits es.size=true∧es.size=n∧TI b t
theorem pD.at {h h':Heap} {a:Addr} {S:Int→Bool} {n:Nat} {b:Bool} (x:pD prog w h a S n b) (k:∀ o,h.get? a=some o→h'.get? a=some o):pD prog w h' a S n b:=by
 obtain ⟨o,es,ep,t,ho,r⟩:=x
 exact ⟨o,es,ep,t,k o ho,r⟩
theorem pD.congr {h:Heap} {a:Addr} {S S':Int→Bool} {n n':Nat} {b:Bool} (x:pD prog w h a S n b) (e:∀ k,S k=S' k) (en:n=n'):pD prog w h a S' n' b:=by
 have:S=S':=funext e
 subst this;subst en;exact x
theorem stored {h:Heap} {a:Addr} {o:Obj} {es eA:Array (Int×Value)} {ep:Nat} {t tA:SetTable} {S:Int→Bool} {b:Bool} (ho:h.get? a=some o) (hx:o.ExactSet) (hd:o.data=.set es ep t) (hel:ElemsOf (iK prog w) eA.toList)
  (hm:∀ k,S k=true ↔ ∃ e∈eA.toList,(iK prog w).is k e.2=true) (hz:eA.size<scanBound) (hf:tA.fits eA.size=true) (I:TI b tA) :
  (h.update a (Obj.putSet eA tA)).get? a=some { o with data:=.set eA (ep+1) tA }∧pD prog w (h.update a (Obj.putSet eA tA)) a S eA.size b:=by
 obtain ⟨g,_⟩:=SetOf_store (knd:=iK prog w) ho hx hd hel hm hz hf
 exact ⟨g,_,eA,ep+1,tA,g,hx,rfl,hel,hm,hz,hf,rfl,I⟩
theorem Q5 {g:Bool→Sem Unit} (hg:∀ (b:Bool) (s₁:Shared) (Q':Unit→Shared→Prop),Q' () s₁→wpAny (model prog w) A (g b) Q' E s₁) {a:Addr} {o:Obj} {es eA:Array (Int×Value)} {ep:Nat} {t tA:SetTable} {S:Int→Bool} {b wd:Bool} {R:Option Bool→Shared→Prop}
  (ho:s.heap.get? a=some o) (hx:o.ExactSet) (hd:o.data=.set es ep t) (hel:ElemsOf (iK prog w) eA.toList) (hm:∀ k,S k=true ↔ ∃ e∈eA.toList,(iK prog w).is k e.2=true) (hz:eA.size<scanBound) (hf:tA.fits eA.size=true) (I:TI b tA)
  (q:∀ h',Heap.SameBut a s.heap h'→pD prog w h' a S eA.size b→R (some true) { s with heap:=h' }):wpAny (model prog w) A (do
   storeSet a eA tA
   if (!wd && tA.tooFull)=true then do
    g (relayAll tA eA (SetTable.grown eA.size)).2.2
    storeSet a (relayAll tA eA (SetTable.grown eA.size)).1 (relayAll tA eA (SetTable.grown eA.size)).2.1
    pure (some true)
   else pure (some true)) R E s:=by
 obtain ⟨g1,S1⟩:=stored (prog:=prog) (w:=w) ho hx hd hel hm hz hf I
 refine wpAny_bind (wpAny_storeSet_of ho hd ?_ (fits_of_scanBound hz))
 have b1:=Heap.SameBut.update s.heap a (Obj.putSet eA tA)
 split
 ·have pm:=relayAll_perm tA eA (SetTable.grown eA.size)
  have ft:=relayAll_fits tA eA (SetTable.grown eA.size)
  have IR:=I.relayAll eA (SetTable.grown eA.size)
  generalize relayAll tA eA (SetTable.grown eA.size)=r at pm ft IR
  obtain ⟨eB,tB,gv⟩:=r
  dsimp only at pm ft IR
  have hzB:eB.size=eA.size:=by rw [←Array.length_toList,pm.length_eq,Array.length_toList]
  obtain ⟨_,S2⟩:=stored (prog:=prog) (w:=w) (S:=S) g1 hx rfl (hel.perm pm) (fun k=>(hm k).trans ⟨fun ⟨e,he,z⟩=>⟨e,pm.mem_iff.mpr he,z⟩,fun ⟨e,he,z⟩=>⟨e,pm.mem_iff.mp he,z⟩⟩) (by rw [hzB];exact hz) ft IR
  rw [hzB] at S2
  exact wpAny_bind (hg _ _ _ (wpAny_bind (wpAny_storeSet_of g1 rfl (wpAny_pure (q _ (b1.trans (Heap.SameBut.update _ a _)) S2)) (fits_of_scanBound (by rw [hzB];exact hz)))))
 ·exact wpAny_pure (q _ b1 S1)
theorem aaL {a:Addr} {S:Int→Bool} {n:Nat} {k:Int} {x:Value} {b:Bool} {Q:Bool→Shared→Prop} (hk:(iK prog w).is k x=true) (hc:x.scannable=true) (hS:pD prog w s.heap a S n b) (hr:n+1<scanBound)
  (q:∀ h',Heap.SameBut a s.heap h'→pD prog w h' a (fun j=>S j || decide (j=k)) (if S k then n else n+1) b→Q (!S k) { s with heap:=h' }):wpAny (model prog w) A (setAddHashed a x ((iK prog w).hash k)) Q E s:=by
 obtain ⟨o,es,ep,t,ho,hx,hd,hel,hm,hz,hf,hn,I⟩:=hS
 unfold setAddHashed setAddHashedIn
 refine wpAny_holding (wpAny_bind (wpAny_setState_of ho hd hf ?_))
 dsimp only
 rw [byScan_of hc hz hel,if_pos rfl]
 unfold setAddByScan
 refine wpAny_bind (wpAny_bind (wpAny_rule (wpAny_bind (wpAny_setScan_of hk ho hd hf hel ?_))))
 cases hfi:List.findIdx? (fun e=>(iK prog w).is k e.2) es.toList with
 | some j =>
  dsimp only
  obtain ⟨hj,hpj,_⟩:=List.findIdx?_eq_some_iff_getElem.mp hfi
  have hSk:S k=true:=(hm k).mpr ⟨es.toList[j],List.getElem_mem hj,hpj⟩
  have z:=q s.heap (Heap.SameBut.refl a s.heap) ⟨o,es,ep,t,ho,hx,hd,hel,fun j=>by
   rw [Bool.or_eq_true,decide_eq_true_eq,←hm j]
   exact ⟨fun c=>c.elim (fun y=>y) fun y=>by rw [y];exact hSk,Or.inl⟩,hz,hf,by rw [hSk];exact hn,I⟩
  rw [hSk] at z
  exact wpAny_pure (wpAny_pure z)
 | none =>
  dsimp only
  have hSk:S k=false:=by
   cases c:S k with
   | false=>rfl
   | true =>
    obtain ⟨e,he,hp⟩:=(hm k).mp c
    have:=List.findIdx?_eq_none_iff.mp hfi e he
    rw [hp] at this;cases this
  have pm:=layNew_perm t es ((iK prog w).hash k) x
  have ft:=layNew_fits t es ((iK prog w).hash k) x
  have IL:=I.layNew es ((iK prog w).hash k) x
  generalize layNew t es ((iK prog w).hash k) x=r at pm ft IL
  obtain ⟨eA,tA,wd,gv⟩:=r
  dsimp only at pm ft IL ⊢
  rw [Array.toList_push] at pm
  have hzA:eA.size=n+1:=by rw [←Array.length_toList,pm.length_eq,List.length_append,Array.length_toList,hn];rfl
  have fin:∀ h',Heap.SameBut a s.heap h'→pD prog w h' a (fun j=>S j || decide (j=k)) eA.size b→Q true { s with heap:=h' }:=fun h' b1 S1=>by
   have z:=q h' b1
   rw [hSk] at z
   rw [hzA] at S1
   exact z S1
  have gw:∀ (c:Bool) (s₁:Shared) (Q':Unit→Shared→Prop),Q' () s₁→wpAny (model prog w) A (match c with | true=>rule "set.scan.the-table-gave-way" | false=>pure ()) Q' E s₁:=fun c s₁ Q' y=>by
   cases c
   ·exact wpAny_pure y
   ·exact wpAny_rule y
  refine wpAny_bind (gw _ _ _ ?_)
  split
  ·refine wpAny_bind ?_
   rw [hashByValue_scannable 8 hc]
   refine wpAny_pure (Q5 gw ho hx hd ((hel.push hk hc).perm pm) (mem_push_iff hk hm pm) (by rw [hzA];exact hr) ?_ ?_ fun h' b1 S1=>wpAny_pure (fin h' b1 S1))
   ·split
    ·exact ft
    ·exact SetTable.fits_plain_off ft
   ·split
    ·exact IL
    ·exact IL.Wt
  ·refine wpAny_bind (wpAny_pure ?_)
   exact Q5 gw ho hx hd ((hel.push hk hc).perm pm) (mem_push_iff hk hm pm) (by rw [hzA];exact hr) ft IL fun h' b1 S1=>wpAny_pure (fin h' b1 S1)
end
end SD
namespace SD
open PySem PyProof.Rows
section
variable {prog:Program} {w:World} {A:Around} {E:Value→Shared→Prop} {s:Shared}
def bo (w:World):Bool:=!w.params.followText "set-order"
def fresh (b:Bool):Obj:={ cls:=.type "set",dict:=none,data:=.set #[] 0 (.fresh 0 0 b) }
theorem Wu (b:Bool) {h:Heap} {a:Addr} (e:h.get? a=some (fresh b)):pD prog w h a (fun _=>false) 0 b :=
 ⟨_,#[],0,_,e,⟨rfl,rfl,rfl⟩,rfl,fun e he=>by simp at he,fun k=>by simp,by decide,by rfl,rfl,⟨fun i j x y _ z=>by simp [SetTable.fresh] at z,rfl,rfl⟩⟩
theorem aaM (v:Value) {Q₁:Value→Shared→Prop} (q:Q₁ (.ref s.heap.objs.size) { s with heap:=s.heap.push (fresh (bo w)) }) :
  codeAny (model prog w) A (.call (.builtin "set.__new__") ⟨[.type "set",v],[]⟩) (wants Q₁ E) s:=by
 refine codeAny_of_tree (show wpAny _ A.in1 (do checkBuiltinCall "set.__new__" ⟨[.type "set",v],[]⟩;again (.builtin "set.__new__" ⟨[.type "set",v],[]⟩)) _ _ s from ?_)
 refine wpAny_bind (wpAny_of_eq (F.newCall_set_1 v) (wpAny_pure ⟨plainId_quiet F.plain_set_new _,codeAny_builtin F.entry_set_new ?_⟩))
 rw [Around.under_plainId F.plain_set_new _]
 unfold Builtin.«set.__new__» Builtin.Frozenset.newClass
 have hsub:=sub_set_self
 obtain ⟨hp,g,d,tk,os⟩:=s
 dsimp only
 wp_walk
 refine wpAny_askSetting (wpAny_pure ?_)
 simp only [newObj]
 exact wpAny_bind (wpAny_alloc (wpAny_pure (wpAny_pure q)))
section
variable {R:Result→Shared→Prop} {I:Addr} {fp wr:List Addr} {G:Array GenState→Array GenState→Prop} {n:Nat} {P:Nat→Value→Prop} {St:Nat→Shared→Prop}
theorem Yp {b:Bool} (W:WalksS prog w A.in1 I fp wr G n P St) (a:Addr) (hf:a ∉ fp) (val:Nat→Int) (hv:∀ i v,P i v→∃ t,v=.int (val i) t) (hz:n+1<scanBound):∀ (k i:Nat) (s:Shared),n - i=k→i≤n→St i s →
  pD prog w s.heap a (fun j=>(firstMet val i).any (· == j)) (firstMet val i).length b→(∀ s',Moved (a::wr) G s s'→pD prog w s'.heap a (fun j=>(firstMet val n).any (· == j)) (firstMet val n).length b→R (.ok (.ret .none)) s') →
  codeAny (model prog w) A (.builtin "set.update.loop" ⟨[.ref a,.ref I],[]⟩) R s:=by
 have hw:a ∉ wr:=fun h=>hf (W.sub _ h)
 have hsub:∀ c∈wr,c∈a::wr:=fun c hc=>List.mem_cons_of_mem _ hc
 intro k
 induction k with
 | zero =>
  intro i s hk hi st hS q
  obtain rfl:i=n:=by omega
  refine codeAny_builtin F.entry_set_update_loop ?_
  rw [Around.under_plainId F.plain_set_update_loop _]
  refine (show wpAny _ A.in1 (pyNext (.ref I) >>= _) _ _ s from wpAny_bind (W.done s _ _ st fun s' m=>?_))
  exact (show wpAny _ A.in1 (ret Value.none) _ _ s' from wpAny_pure (q s' (m.mono hsub) (hS.at fun o e=>m.heap a o hw e)))
 | succ k ih =>
  intro i s hk hi st hS q
  refine codeAny_builtin F.entry_set_update_loop ?_
  rw [Around.under_plainId F.plain_set_update_loop _]
  refine (show wpAny _ A.in1 (pyNext (.ref I) >>= _) _ _ s from wpAny_bind (W.item i s _ _ (by omega) st fun v s' hP st' m=>?_))
  obtain ⟨t,rfl⟩:=hv i v hP
  refine (show wpAny _ A.in1 (holding [Value.int (val i) t] (setAdd a (.int (val i) t)) >>= _) _ _ s' from wpAny_bind (wpAny_holding ?_))
  unfold setAdd
  have hl:=firstMet_length_le val i
  refine wpAny_holding (wpAny_bind ((iK prog w).pyHash (k:=val i) (intKind_is _ _ _ _) (aaL (s:={ s' with toks:=s'.toks+1 }) (intKind_is _ _ _ _) rfl (hS.at fun o e=>m.heap a o hw e) (by omega) fun h' sb S2=>?_)))
  have hSi:pD prog w h' a (fun j=>(firstMet val (i+1)).any (· == j)) (firstMet val (i+1)).length b:=S2.congr (fun j=>by rw [firstMet_succ,step_any]) (by rw [firstMet_succ,step_length])
  refine wpAny_pure ⟨plainId_quiet F.plain_set_update_loop _,ih (i+1) _ (by omega) (by omega) (W.frame _ s' _ _ st' (Nat.le_succ _) fun c hc o e=>?_) hSi fun s'' m2 S3=>?_⟩
  ·rw [sb.2 c fun z=>hf (by rw [←z];exact hc)];exact e
  ·refine q s'' (Moved.trans W.gtrans ((m.mono hsub).then_heap (Nat.le_succ _) fun c o hc e=>?_) m2) S3
   rw [sb.2 c fun z=>hc (by rw [z];exact List.mem_cons_self)];exact e
end
end
end SD
namespace SD
open PySem PyProof.Rows
section
variable {prog:Program} {w:World} {A:Around} {E:Value→Shared→Prop} {s:Shared}
set_option maxHeartbeats 3200000 in
theorem aaN {l:Addr} {its:Array Value} {ns:List Int} {Q:Value→Shared→Prop} (hh:A.handled=none) (hl:s.heap.IsList l its) (hi:IntsAre its.toList ns) (hz:its.size+1<scanBound)
  (q:∀ (h':Heap) (tk:Nat),pD prog w h' s.heap.objs.size (fun j=>(firstMet (fun i=>ns.getD i 0) its.size).any (· == j)) (firstMet (fun i=>ns.getD i 0) its.size).length (bo w) →
   (∀ b o,b<s.heap.objs.size→s.heap.get? b=some o→h'.get? b=some o)→Q (.ref s.heap.objs.size) { s with heap:=h',toks:=tk }) :
  wpAny (model prog w) A (call (.type "set") [.ref l]) Q E s:=by
 obtain ⟨c,tl,hmro⟩:=F.called_set.mro
 have hmade:=F.called_set.made
 have hsub:=F.called_set.sub
 refine wpAny_call (codeAny_of_tree (show wpAny _ _ (callAny (.type "set") _) _ _ _ from ?_))
 refine wpAny_pure ⟨Code.quiet_builtin _ (by decide +kernel),codeAny_builtin F.entry_type_call ?_⟩
 rw [Around.under_plain (weight_type_call_type "set" [.ref l] []) rfl]
 have h1:=F.called_set.notType
 have h2:=F.called_set.canCreate
 have hct:=F.typeCall_set_1 (.ref l)
 repeat (any_goals (first | assumption | wp_step))
 refine codeAny_mono (aaM (.ref l) (E:=E) (Q₁:=fun ob s₁=>ob=.ref s.heap.objs.size∧s₁={ s with heap:=s.heap.push (fresh (bo w)) }) ⟨rfl,rfl⟩) fun r s₁ hr=>?_
 cases r with
 | error e=>exact hr
 | ok fl =>
  cases fl with
  | ret ob =>
   obtain ⟨rfl,rfl⟩:=hr
   have hS:(s.heap.push (fresh (bo w))).get? s.heap.objs.size=some (fresh (bo w)):=Heap.get?_push_size _ rfl
   have hT:Shared.TypeIs { s with heap:=s.heap.push (fresh (bo w)) } (.ref s.heap.objs.size) "set":=⟨_,hS,rfl⟩
   have hli:=F.called_set.init.lookup
   have hbi:=F.called_set.init.bind (.ref s.heap.objs.size)
   repeat (any_goals (first | assumption | wp_step))
   refine codeAny_mono (codeAny_call_builtin (R:=wants (fun r s₂=>r=.none∧∃ h' tk,s₂={ s with heap:=h',toks:=tk } ∧
     pD prog w h' s.heap.objs.size (fun j=>(firstMet (fun i=>ns.getD i 0) its.size).any (· == j)) (firstMet (fun i=>ns.getD i 0) its.size).length (bo w) ∧
     (∀ b o,b<s.heap.objs.size→s.heap.get? b=some o→h'.get? b=some o)) E) F.called_set.init.plain F.entry_set_init (check_set_init_1 hT ?_)) fun r₂ s₂ hr₂=>?_
   ·obtain ⟨⟨ocls,odict,odata,oslots⟩,hol,hcl,nl,hdl⟩:=hl
    simp only at hcl hdl
    subst hcl;subst hdl
    have hol':(s.heap.push (fresh (bo w))).get? l=some { cls:=.type "list",dict:=odict,data:=.seq its nl,slots:=oslots }:=Heap.get?_push_of_some _ hol
    have hsls:=F.sub_list_set
    have hslf:=F.sub_list_frozenset
    have hne:(Value.type "list" == Value.type "dict")=false:=by decide
    have hl1:(s.heap.push (fresh (bo w))).IsList l its:=⟨_,hol',rfl,nl,rfl⟩
    unfold Builtin.«set.__init__» noKeywords Builtin.Frozenset.updateFrom
    generalize hPI:pyIter=PI
    wp_walk
    subst hPI
    refine wpAny_pyIter_list hl1 (wpAny_bind (wpAny_runValue ?_))
    have hlS:l<s.heap.objs.size:=Heap.lt_size hol
    have hh3:A.in1.in1.in1.handled=none:=by simp [hh]
    have hsz:(s.heap.push (fresh (bo w))).objs.size=s.heap.objs.size+1:=Heap.size_push ..
    have hneI:l≠(s.heap.push (fresh (bo w))).objs.size:=by rw [hsz];exact Nat.ne_of_lt (Nat.lt_succ_of_lt hlS)
    have hSf:s.heap.objs.size ∉ [(s.heap.push (fresh (bo w))).objs.size,l]:=by
     rw [hsz]
     simp only [List.mem_cons,List.not_mem_nil,or_false,not_or]
     exact ⟨Nat.ne_of_lt (Nat.lt_succ_self _),Nat.ne_of_gt hlS⟩
    refine Yp (b:=bo w) ((Walks.list hh3 _ l hneI its).toS) s.heap.objs.size hSf (fun i=>ns.getD i 0) (fun i v hv=>IntsAre.int_at hi i v (by rw [Array.getElem?_toList];exact hv)) hz (its.size - 0) 0 _ (by omega) (Nat.zero_le _)
     ⟨⟨_,Heap.get?_push_size _ rfl,rfl,rfl⟩,(hl1.push _)⟩ ?hS0 ?hR
    case hS0=>exact Wu (bo w) (Heap.get?_push_of_some _ hS)
    case hR =>
     intro s' hm hS'
     obtain ⟨h',g',d',tk',os'⟩:=s'
     have eg:g' = s.gens:=hm.gens
     have ed:d' = s.drawn:=hm.drawn
     have eo:os' = s.os:=hm.os
     subst eg;subst ed;subst eo
     refine (show wpAny _ _ _ _ _ _ from wpAny_pure ?_)
     refine (show wpAny _ _ (ret Value.none) _ _ _ from wpAny_pure ⟨rfl,h',tk',rfl,hS',fun b o hb e=>?_⟩)
     refine hm.heap b o ?_ (Heap.get?_push_of_some _ (Heap.get?_push_of_some _ e))
     rw [hsz]
     simp only [List.mem_cons,List.not_mem_nil,or_false,not_or]
     exact ⟨Nat.ne_of_lt hb,Nat.ne_of_lt (Nat.lt_succ_of_lt hb)⟩
   ·cases r₂ with
    | error e=>exact hr₂
    | ok fl₂ =>
     cases fl₂ with
     | ret r =>
      obtain ⟨rfl,h',tk,rfl,hS',hk'⟩:=hr₂
      repeat (any_goals (first | assumption | wp_step))
      exact q _ _ hS' hk'
     | _=>exact hr₂.elim
  | _=>exact hr.elim
end
end SD
namespace SD
open PySem PyProof.Rows
theorem Wv:entryFor table "set.__iter__" = some Builtin.«frozenset.__iter__»:=entryFor_alias (id':="frozenset.__iter__") (by kernel_rfl) rfl (by decide +kernel) (by kernel_rfl)
theorem fW:Slot "set_iterator" "__next__" "set_iterator.__next__" :=
 .of (owner:="set_iterator") (n:="__next__") (by rw [typeLookup_type,builtinLookup_eq_fast];kernel_rfl) (by decide +kernel) (by decide +kernel) (by decide +kernel) (by first | exact .inl (by decide +kernel) | exact .inr (by decide +kernel)) (by rw [isSubtype_type];kernel_rfl)
theorem xu:entryFor table "set_iterator.__next__" = some Builtin.«set_iterator.__next__»:=entryFor_of_tree (by kernel_rfl)
theorem Kf:Manifest.owners.lookup (String.ofList ['r','o','t','a','r','e','t','i','_','t','e','s'].reverse)=some Manifest.sig_set_iterator:=by kernel_rfl
theorem Bu (a:Value):argsOk "set_iterator.__next__" ⟨[a],[]⟩:=by
 unfold argsOk;rw [signature?_of (id:="set_iterator.__next__") (n:=['_','_','t','x','e','n','_','_']) (o:=['r','o','t','a','r','e','t','i','_','t','e','s']) (by kernel_rfl) Kf];kernel_rfl
section
variable {prog:Program} {w:World} {A:Around} {E:Value→Shared→Prop} {s:Shared}
theorem Ww {r:Addr} {Q:Bool→Shared→Prop} (hT:s.TypeIs (.ref r) "set") (q:Q false s):wpAny (model prog w) A (Builtin.List.listLengthHint (.ref r)) Q E s:=by
 unfold Builtin.List.listLengthHint
 refine wpAny_bind (wpAny_specialOf hT PySem.F.slot_set_len.lookup ?_)
 generalize hid:("set.__len__":String)=id0
 wp_delta
 rw [show splitId id0=some ("set","__len__") from by subst hid;decide +kernel]
 subst hid
 refine wpAny_bind (wpAny_isInstance (T:="set") (b:=true) hT (by rw [isSubtype_type];kernel_rfl) (wpAny_ite_split (fun z=>absurd z (by decide)) (fun _=>?_)))
 exact wpAny_ite_split (fun _=>wpAny_bind (wpAny_typeOf hT (wpAny_pure q))) (fun z=>absurd (by decide +kernel) z)
theorem GQ {α:Type} {l:List α} {i:Nat} (h:i<l.length):(l[i]::l.eraseIdx i).Perm l:=by
 rw [List.eraseIdx_eq_take_drop_succ]
 refine List.perm_middle.symm.trans (List.Perm.of_eq ?_)
 rw [List.getElem_cons_drop,List.take_append_drop]
theorem RZ {src:Source} {n:Nat} {Q:Nat→Shared→Prop} {M:Model} (hn:n≠0) (q:∀ i,i<n→∀ d,Q i { s with drawn:=d }):wpAny M A (choose src n) Q E s:=fun Γ p hΓ=>by
 show Sem.wp M Γ (.choose src n .pure) _ _ p s
 rw [Sem.wp_choose]
 exact ⟨hn,q _ (Nat.mod_lt _ (Nat.pos_of_ne_zero hn)) _⟩
theorem Q6 {α:Type} {M:Model}:∀ (n:Nat) (xs:List α) (s:Shared) (Q:List α→Shared→Prop),xs.length=n→(∀ ys d,ys.Perm xs→Q ys { s with drawn:=d })→wpAny M A (drawOrder n xs) Q E s
 | 0,xs,s,Q,hl,q=>by
  obtain rfl:xs=[]:=List.eq_nil_of_length_eq_zero hl
  exact wpAny_pure (q [] s.drawn (List.Perm.refl _))
 | n+1,[],s,Q,hl,q=>by cases hl
 | n+1,x::r,s,Q,hl,q=>by
  unfold drawOrder
  refine wpAny_bind (RZ (by simp) fun i hi d=>?_)
  rw [List.getElem?_eq_getElem hi]
  dsimp only
  refine wpAny_bind (Q6 n ((x::r).eraseIdx i) _ _ (by rw [List.length_eraseIdx_of_lt hi];simp at hl ⊢;omega) fun ys d2 hp=>?_)
  refine wpAny_pure (q _ d2 ((hp.cons _).trans ?_))
  exact GQ hi
theorem Q7 {α:Type} (next:Nat→Nat):∀ (n k:Nat) (l:List α) (out:Array α),l.length=n→(pickOrder.go next n k l out).toList.Perm (out.toList++l)
 | 0,k,l,out,h=>by
  obtain rfl:l=[]:=List.eq_nil_of_length_eq_zero h
  unfold pickOrder.go
  rw [List.append_nil]
 | n+1,k,l,out,h=>by
  unfold pickOrder.go
  have hi:next k % l.length<l.length:=Nat.mod_lt _ (by omega)
  rw [List.getElem?_eq_getElem hi]
  dsimp only
  refine (Q7 next n (k+1) _ _ (by rw [List.length_eraseIdx_of_lt hi];omega)).trans ?_
  rw [Array.toList_push,List.append_assoc]
  exact List.Perm.append_left _ (GQ hi)
theorem R0 {α:Type} (next:Nat→Nat) (xs:Array α):(pickOrder next xs).toList.Perm xs.toList:=by
 have:=Q7 next xs.size 0 xs.toList #[] (by simp)
 unfold pickOrder
 simpa using this
end
end SD
namespace SD
open PySem PyProof.Rows
section
variable {prog:Program} {w:World} {A:Around} {E:Value→Shared→Prop} {s:Shared}
def xG (h:Heap) (it a:Addr) (f:Value) (i n ep:Nat):Prop:=∃ o,h.get? it=some o∧o.cls=.type "set_iterator"∧o.data=.fields #[f,.int i 0,.ref a,.int n 0,.int ep 0]
theorem xG.typeIs {it a:Addr} {f:Value} {i n ep:Nat} (x:xG s.heap it a f i n ep):s.TypeIs (.ref it) "set_iterator":=let ⟨o,ho,hc,_⟩:=x;⟨o,ho,hc⟩
theorem fld {h:Heap} {it:Addr} {oi:Obj} {vs:Array Value} {k:Nat} {v:Value} (ho:h.get? it=some oi) (hd:oi.data=.fields vs) (hc:oi.cls=.type "set_iterator") :
  (h.update it (Obj.mapFields (·.setIfInBounds k v))).get? it=some { oi with data:=.fields (vs.setIfInBounds k v) }∧True:=by
 refine ⟨?_,trivial⟩
 have e:=Heap.get?_update_self (Obj.mapFields (·.setIfInBounds k v)) ho (Obj.isFreed_of_fields (Obj.data_mapFields hd _))
 rw [e]
 obtain ⟨c,d,dt,sl⟩:=oi
 dsimp only at hd
 subst hd
 rfl
theorem Wx {it a:Addr} {o:Obj} {es:Array (Int×Value)} {t:SetTable} {slot nx i n ep:Nat} {v:Value} {Q:Option Value→Shared→Prop} (x:xG s.heap it a (rawInt slot) i n ep) (ha:s.heap.get? a=some o) (hd:o.data=.set es ep t) (hf:t.fits es.size=true) (hn:es.size=n)
  (hx:∀ (A:Around) (E:Value→Shared→Prop) (Q':Option (Value×Nat)→Shared→Prop),Q' (some (v,nx)) s→wpAny (model prog w) A (setNext a slot i ep) Q' E s)
  (q:∀ h',xG h' it a (rawInt nx) (i+1) n ep→Heap.SameBut it s.heap h'→Q (some v) { s with heap:=h' }):wpAny (model prog w) A (pyNext (.ref it)) Q E s:=by
 obtain ⟨oi,ho,hc,hdi⟩:=id x
 unfold pyNext
 refine wpAny_bind (wpAny_attempt (wpAny_callSpecial?_slot (name:=Str.ofString "__next__") x.typeIs fW (wpAny_call_entry fW x.typeIs xu ?_ (Bu _))))
 unfold Builtin.«set_iterator.__next__» slotArgs
 refine wpAny_bind (wpAny_pure ?_)
 refine wpAny_bind (wpAny_fieldsOf ho hdi ?_)
 dsimp only
 refine wpAny_bind (wpAny_setEntries_of ha hd hf ?_)
 rw [if_neg (by rw [hn];simp)]
 refine (show wpAny _ _ (setNext a slot i ep >>= _) _ _ _ from wpAny_bind (hx _ _ _ ?_))
 dsimp only
 obtain ⟨x1,y1⟩:=fld ho hdi hc (k:=0) (v:=rawInt nx)
 refine wpAny_bind (wpAny_setField ho hdi (by simp) ?_)
 refine wpAny_bind (wpAny_setField x1 rfl (by simp) ?_)
 refine wpAny_pure ⟨v,rfl,wpAny_pure (q _ ⟨_,Heap.get?_update_self _ x1 (Obj.isFreed_of_fields (Obj.data_mapFields rfl _)),(Obj.cls_mapFields ..).trans hc,?_⟩ ((Heap.SameBut.update ..).trans (Heap.SameBut.update ..)))⟩
 rw [Obj.data_mapFields rfl]
 simp [rawInt]
theorem Q8 {it:Addr} {oi:Obj} {vs:Array Value} {Q:Option Value→Shared→Prop} (hh:A.handled=none) (ho:s.heap.get? it=some oi) (hd:oi.data=.fields vs) (hz:2<vs.size) (q:∀ h',Heap.ExtBut it s.heap h'→Q none { s with heap:=h' }) :
  wpAny (model prog w) A.in1 (do
   setField (.ref it) 2 .none
   let e ←newExc (.type "StopIteration") []
   raiseNew e:Sem PySem.Fin) (fun fin s'=>∃ v,fin=Fin.done (Flow.ret v)∧wpAny (model prog w) A (pure (some v)) Q E s')
   (fun e s'=>wpAny (model prog w) A (do
    let b ←isInstance e (.type "StopIteration")
    if b=true then pure none else throw e) Q E s') s:=by
 refine wpAny_bind (wpAny_setField ho hd hz (wpAny_bind ?_))
 simp only [newExc,newTuple]
 refine wpAny_bind (wpAny_newObj_type ?_ (by size_fits))
 refine wpAny_bind (m:=firstArgMember _ _) (wpAny_of_eq (a:=Value.none) (by first | rfl | (simp only [firstArgMember];rfl)) (wpAny_newObj_type ?_ (by size_fits)))
 simp only [raiseNew]
 refine wpAny_bind (wpAny_handled ?_)
 rw [show A.in1.handled=none from hh]
 refine wpAny_bind (wpAny_pure ?_)
 refine wpAny_throw (wpAny_bind ?_)
 refine wpAny_isInstance (T:="StopIteration") (b:=true) ⟨_,Heap.get?_push_size _ rfl,rfl⟩ isSubtype_stop ?_
 exact wpAny_pure (q _ (((Heap.SameBut.update ..).extBut.push _).push _))
theorem HW {it a:Addr} {o:Obj} {es:Array (Int×Value)} {t:SetTable} {slot i n ep:Nat} {Q:Option Value→Shared→Prop} (hh:A.handled=none) (x:xG s.heap it a (rawInt slot) i n ep) (ha:s.heap.get? a=some o) (hd:o.data=.set es ep t) (hf:t.fits es.size=true) (hn:es.size=n)
  (hx:∀ (A:Around) (E:Value→Shared→Prop) (Q':Option (Value×Nat)→Shared→Prop),Q' none s→wpAny (model prog w) A (setNext a slot i ep) Q' E s)
  (q:∀ h',Heap.ExtBut it s.heap h'→Q none { s with heap:=h' }):wpAny (model prog w) A (pyNext (.ref it)) Q E s:=by
 obtain ⟨oi,ho,hc,hdi⟩:=id x
 unfold pyNext
 refine wpAny_bind (wpAny_attempt (wpAny_callSpecial?_slot (name:=Str.ofString "__next__") x.typeIs fW (wpAny_call_entry fW x.typeIs xu ?_ (Bu _))))
 unfold Builtin.«set_iterator.__next__» slotArgs
 refine wpAny_bind (wpAny_pure (wpAny_bind (wpAny_fieldsOf ho hdi ?_)))
 dsimp only
 refine wpAny_bind (wpAny_setEntries_of ha hd hf ?_)
 rw [if_neg (by rw [hn];simp)]
 refine (show wpAny _ _ (setNext a slot i ep >>= _) _ _ _ from wpAny_bind (hx _ _ _ ?_))
 exact Q8 hh ho hdi (by simp) q
theorem Wy {it a tu:Addr} {o ot:Obj} {es:Array (Int×Value)} {t:SetTable} {ps:Array Value} {pl i n ep c:Nat} {tk:Tok} {h:Int} {v:Value} {Q:Option Value→Shared→Prop} (x:xG s.heap it a (.ref tu) i n ep) (ha:s.heap.get? a=some o) (hd:o.data=.set es ep t) (hf:t.fits es.size=true) (hn:es.size=n)
  (ht:s.heap.get? tu=some ot) (htd:ot.data=.seq ps c) (hp:ps[i]? = some (.int (pl:Int) tk)) (he:es[pl]? = some (h,v))
  (q:∀ h',xG h' it a (.ref tu) (i+1) n ep→Heap.SameBut it s.heap h'→Q (some v) { s with heap:=h' }):wpAny (model prog w) A (pyNext (.ref it)) Q E s:=by
 obtain ⟨oi,ho,hc,hdi⟩:=id x
 unfold pyNext
 refine wpAny_bind (wpAny_attempt (wpAny_callSpecial?_slot (name:=Str.ofString "__next__") x.typeIs fW (wpAny_call_entry fW x.typeIs xu ?_ (Bu _))))
 unfold Builtin.«set_iterator.__next__» slotArgs
 refine wpAny_bind (wpAny_pure (wpAny_bind (wpAny_fieldsOf ho hdi ?_)))
 dsimp only
 refine wpAny_bind (wpAny_setEntries_of ha hd hf ?_)
 rw [if_neg (by rw [hn];simp)]
 refine wpAny_bind ?_
 unfold seqItems?
 dsimp only
 refine wpAny_bind (wpAny_load ht ?_)
 rw [htd]
 refine wpAny_pure ?_
 dsimp only
 rw [show ((i:Int)).toNat=i from rfl,hp]
 dsimp only
 unfold setNextDrawn
 refine wpAny_bind (wpAny_bind (wpAny_setState_of ha hd hf ?_))
 dsimp only
 rw [if_neg (by simp),show ((pl:Int)).toNat=pl from rfl,he]
 refine wpAny_pure ?_
 refine wpAny_bind (wpAny_setField ho hdi (by simp) ?_)
 refine wpAny_pure ⟨v,rfl,wpAny_pure (q _ ⟨_,Heap.get?_update_self _ ho (Obj.isFreed_of_fields (Obj.data_mapFields hdi _)),(Obj.cls_mapFields ..).trans hc,?_⟩ (Heap.SameBut.update ..))⟩
 rw [Obj.data_mapFields hdi]
 simp [rawInt]
theorem HX {it a tu:Addr} {o ot:Obj} {es:Array (Int×Value)} {t:SetTable} {ps:Array Value} {i n ep c:Nat} {Q:Option Value→Shared→Prop} (hh:A.handled=none) (x:xG s.heap it a (.ref tu) i n ep) (ha:s.heap.get? a=some o) (hd:o.data=.set es ep t) (hf:t.fits es.size=true) (hn:es.size=n)
  (ht:s.heap.get? tu=some ot) (htd:ot.data=.seq ps c) (hp:ps[i]? = none)
  (q:∀ h',Heap.ExtBut it s.heap h'→Q none { s with heap:=h' }):wpAny (model prog w) A (pyNext (.ref it)) Q E s:=by
 obtain ⟨oi,ho,hc,hdi⟩:=id x
 unfold pyNext
 refine wpAny_bind (wpAny_attempt (wpAny_callSpecial?_slot (name:=Str.ofString "__next__") x.typeIs fW (wpAny_call_entry fW x.typeIs xu ?_ (Bu _))))
 unfold Builtin.«set_iterator.__next__» slotArgs
 refine wpAny_bind (wpAny_pure (wpAny_bind (wpAny_fieldsOf ho hdi ?_)))
 dsimp only
 refine wpAny_bind (wpAny_setEntries_of ha hd hf ?_)
 rw [if_neg (by rw [hn];simp)]
 refine wpAny_bind ?_
 unfold seqItems?
 dsimp only
 refine wpAny_bind (wpAny_load ht ?_)
 rw [htd]
 refine wpAny_pure ?_
 dsimp only
 rw [show ((i:Int)).toNat=i from rfl,hp]
 dsimp only
 obtain ⟨x1,_⟩:=fld ho hdi hc (k:=0) (v:=rawInt 0)
 refine wpAny_bind (wpAny_setField ho hdi (by simp) ?_)
 exact Q8 (s:={ s with heap:=s.heap.update it (Obj.mapFields (·.setIfInBounds 0 (rawInt 0))) }) hh x1 rfl (by simp) fun h' e=>q h' fun b o' hb g=>e b o' hb (by rw [(Heap.SameBut.update s.heap it _).2 b hb];exact g)
end
end SD
namespace SD
open PySem PyProof.Rows
theorem Kg:Slot "set_iterator" "__iter__" "set_iterator.__iter__" :=
 .of (owner:="set_iterator") (n:="__iter__") (by rw [typeLookup_type,builtinLookup_eq_fast];kernel_rfl) (by decide +kernel) (by decide +kernel) (by decide +kernel) (by first | exact .inl (by decide +kernel) | exact .inr (by decide +kernel)) (by rw [isSubtype_type];kernel_rfl)
theorem R3:entryFor table "set_iterator.__iter__" = some Builtin.«dict_keyiterator.__iter__»:=entryFor_alias (id':="dict_keyiterator.__iter__") (by kernel_rfl) rfl (by decide +kernel) (by kernel_rfl)
theorem Wz (a:Value):argsOk "set_iterator.__iter__" ⟨[a],[]⟩:=by
 unfold argsOk;rw [signature?_of (id:="set_iterator.__iter__") (n:=['_','_','r','e','t','i','_','_']) (o:=['r','o','t','a','r','e','t','i','_','t','e','s']) (by kernel_rfl) Kf];kernel_rfl
theorem xG.at {h h':Heap} {it a:Addr} {f:Value} {i n ep:Nat} (x:xG h it a f i n ep) (k:∀ o,h.get? it=some o→h'.get? it=some o):xG h' it a f i n ep:=let ⟨o,ho,r⟩:=x;⟨o,k _ ho,r⟩
section
variable {prog:Program} {w:World} {A:Around} {E:Value→Shared→Prop} {s:Shared}
theorem Q9 {it a:Addr} {f:Value} {i n ep:Nat} {Q:Value→Shared→Prop} (x:xG s.heap it a f i n ep) (q:Q (.ref it) s):wpAny (model prog w) A (pyIter (.ref it)) Q E s:=by
 refine wpAny_pyIter_slot x.typeIs Kg (wpAny_call_entry Kg x.typeIs R3 ?_ (Wz _))
 exact (show wpAny _ _ (ret (.ref it)) _ _ s from wpAny_pure ⟨_,rfl,"set_iterator",_,x.typeIs,fW.lookup,q⟩)
theorem WD (hh:A.handled=none) {I a:Addr} (hne:a≠I) {o:Obj} {es:Array (Int×Value)} {t:SetTable} {ep:Nat} (hd:o.data=.set es ep t) (hf:t.fits es.size=true) (sl:Nat→Nat) (vs:List Value) (hl:vs.length=es.size)
  (hx:∀ (k:Nat) (v:Value),vs[k]? = some v→∀ (s:Shared) (A:Around) (E:Value→Shared→Prop) (Q':Option (Value×Nat)→Shared→Prop),s.heap.get? a=some o→Q' (some (v,sl (k+1))) s→wpAny (model prog w) A (setNext a (sl k) k ep) Q' E s)
  (hy:∀ (s:Shared) (A:Around) (E:Value→Shared→Prop) (Q':Option (Value×Nat)→Shared→Prop),s.heap.get? a=some o→Q' none s→wpAny (model prog w) A (setNext a (sl es.size) es.size ep) Q' E s) :
  Walks prog w A I [I,a] [I] es.size (fun i v=>vs[i]? = some v) (fun i h=>xG h I a (rawInt (sl i)) i es.size ep∧h.get? a=some o) where
 sub:=fun b hb=>by simp at hb;simp [hb]
 frame:=fun _ _ _ st hk=>⟨st.1.at fun o e=>hk I (by simp) o e,hk a (by simp) _ st.2⟩
 item:=fun i s Q E hi st hQ=>by
  have hv:vs[i]? = some (vs[i]'(by omega)):=List.getElem?_eq_getElem (by omega)
  refine Wx st.1 st.2 hd hf rfl (fun A E Q' y=>hx i _ hv s A E Q' st.2 y) fun h' x' sb=>?_
  exact hQ _ h' s.toks hv ⟨x',by rw [sb.2 a hne];exact st.2⟩ fun b o' hb e=>sb.extBut b o' (fun z=>hb (by simp [z])) e
 done:=fun s Q E st hQ=>HW hh st.1 st.2 hd hf rfl (fun A E Q' y=>hy s A E Q' st.2 y) fun h' eb=>hQ h' s.toks fun b o' hb e=>eb b o' (fun z=>hb (by simp [z])) e
 self:=fun _ _ _ _ st hQ=>Q9 st.1 hQ
theorem WK (hh:A.handled=none) {I a tu:Addr} (hne:a≠I) (hnt:tu≠I) {o ot:Obj} {es:Array (Int×Value)} {t:SetTable} {ep c:Nat} (hd:o.data=.set es ep t) (hf:t.fits es.size=true) (ps:List Nat) (hp:ps.Perm (List.range es.size)) (htd:ot.data=.seq (ps.map fun i=>rawInt (i:Nat)).toArray c) (vs:List Value)
  (hvs:vs=ps.filterMap fun p=>(es[p]?).map (·.2)) :
  Walks prog w A I [I,a,tu] [I] es.size (fun i v=>vs[i]? = some v) (fun i h=>xG h I a (.ref tu) i es.size ep∧h.get? a=some o∧h.get? tu=some ot):=by
 have hlen:ps.length=es.size:=by rw [hp.length_eq,List.length_range]
 have hlt:∀ p∈ps,p<es.size:=fun p hm=>List.mem_range.mp (hp.mem_iff.mp hm)
 have adx:vs=ps.map fun p=>(es.getD p (0,.none)).2:=by
  rw [hvs]
  clear hvs hp htd hlen
  induction ps with
  | nil=>rfl
  | cons p r ih =>
   have h1:=hlt p List.mem_cons_self
   rw [List.filterMap_cons,List.map_cons,ih fun q hq=>hlt q (List.mem_cons_of_mem _ hq),Array.getElem?_eq_getElem h1,Array.getD_eq_getD_getElem?,Array.getElem?_eq_getElem h1]
   rfl
 refine ⟨fun b hb=>by simp at hb;simp [hb],fun _ _ _ st hk=>⟨st.1.at fun o e=>hk I (by simp) o e,hk a (by simp) _ st.2.1,hk tu (by simp) _ st.2.2⟩,fun i s Q E hi st hQ=>?_,fun s Q E st hQ=>?_,fun _ _ _ _ st hQ=>Q9 st.1 hQ⟩
 ·have hpi:ps[i]? = some (ps[i]'(by omega)):=List.getElem?_eq_getElem (by omega)
  have hpl:=hlt _ (List.mem_of_getElem? hpi)
  have hv:vs[i]? = some (es[ps[i]'(by omega)]'hpl).2:=by rw [adx,List.getElem?_map,hpi];simp [Array.getD_eq_getD_getElem?,Array.getElem?_eq_getElem hpl]
  refine Wy (pl:=ps[i]'(by omega)) (tk:=0) st.1 st.2.1 hd hf rfl st.2.2 htd (by simp [hpi,rawInt]) (Array.getElem?_eq_getElem hpl) fun h' x' sb=>?_
  exact hQ _ h' s.toks hv ⟨x',by rw [sb.2 a hne];exact st.2.1,by rw [sb.2 tu hnt];exact st.2.2⟩ fun b o' hb e=>sb.extBut b o' (fun z=>hb (by simp [z])) e
 ·refine HX hh st.1 st.2.1 hd hf rfl st.2.2 htd (by simp [hlen]) fun h' eb=>hQ h' s.toks fun b o' hb e=>eb b o' (fun z=>hb (by simp [z])) e
theorem GR {a:Addr} {o:Obj} {es:Array (Int×Value)} {t:SetTable} {ep slot k:Nat} {Q:Option (Value×Nat)→Shared→Prop} (hb:w.params.followText "set-order" = true) (ha:s.heap.get? a=some o) (hd:o.data=.set es ep t) (hf:t.fits es.size=true)
  (q:Q (((pickOrder (w.params.setOrder a ep) es)[k]?).map fun e=>(e.2,slot)) s):wpAny (model prog w) A (setNext a slot k ep) Q E s:=by
 unfold setNext setsByText
 refine wpAny_bind (wpAny_setState_of ha hd hf ?_)
 refine wpAny_bind (wpAny_bind (wpAny_askSetting (wpAny_pure ?_)))
 rw [if_pos (show (model prog w).w.params.followText "set-order" = true from hb),if_neg (by simp)]
 unfold setWalk setsByText
 refine wpAny_bind (wpAny_bind (wpAny_setState_of ha hd hf ?_))
 refine wpAny_bind (wpAny_bind (wpAny_askSetting (wpAny_pure ?_)))
 rw [if_pos (show (model prog w).w.params.followText "set-order" = true from hb)]
 exact wpAny_bind (wpAny_askSetting (wpAny_pure (wpAny_pure q)))
theorem slot_next {a:Addr} {o:Obj} {es:Array (Int×Value)} {t:SetTable} {ep slot k:Nat} {Q:Option (Value×Nat)→Shared→Prop} (hb:w.params.followText "set-order" = false) (hl:t.led=true) (hp:(!t.plain && decide (es.size > 1))=false) (ha:s.heap.get? a=some o) (hd:o.data=.set es ep t) (hf:t.fits es.size=true)
  (q:Q (match es[SetTable.below t.place slot]?,t.place[SetTable.below t.place slot]? with
   | some (_,x),some j=>some (x,j+1)
   | _,_=>none) s):wpAny (model prog w) A (setNext a slot k ep) Q E s:=by
 unfold setNext setsByText
 refine wpAny_bind (wpAny_setState_of ha hd hf ?_)
 refine wpAny_bind (wpAny_bind (wpAny_askSetting (wpAny_pure ?_)))
 rw [if_neg (show ¬ (model prog w).w.params.followText "set-order" = true by show ¬ w.params.followText "set-order" = true;rw [hb];decide)]
 refine wpAny_ite_split (fun z=>absurd z (show ¬ (!t.plain && decide (es.size > 1))=true by rw [hp];decide)) (fun _=>?_)
 refine wpAny_bind ?_
 refine (show wpAny _ _ (if (!t.led && !es.isEmpty)=true then _ else _) _ _ _ from ?_)
 rw [if_neg (by rw [hl];simp)]
 exact wpAny_pure (wpAny_pure q)
end
end SD
namespace SD
open PySem PyProof.Rows
def Ah (ps:Array Nat) (k:Nat):Nat:=if k=0 then 0 else ps.getD (k - 1) 0+1
theorem Kh {ps:Array Nat} (R:HS ps) {k:Nat} (hk:k≤ps.size):SetTable.below ps (Ah ps k)=k:=by
 obtain ⟨h0,h1,h2⟩:=Kc R (Ah ps k)
 have at_:∀ j,j<ps.size→ps[j]? = some (ps.getD j 0):=fun j hj=>by rw [Array.getD_eq_getD_getElem?,Array.getElem?_eq_getElem hj];rfl
 rcases Nat.lt_trichotomy (SetTable.below ps (Ah ps k)) k with z | z | z
 ·have a1:=h2 _ _ (Nat.le_refl _) (at_ _ (by omega))
  unfold Ah at a1
  rw [if_neg (by omega)] at a1
  by_cases e:SetTable.below ps (Ah ps k)=k - 1
  ·unfold Ah at e
   rw [if_neg (by omega)] at e
   rw [e] at a1;omega
  ·have:=R _ (k - 1) _ _ (by omega) (at_ (SetTable.below ps (Ah ps k)) (by omega)) (at_ (k - 1) (by omega))
   unfold Ah at this
   rw [if_neg (by omega)] at this
   omega
 ·exact z
 ·have a1:=h1 k _ z (at_ k (by omega))
  unfold Ah at a1
  by_cases e:k=0
  ·rw [if_pos e] at a1;omega
  ·rw [if_neg e] at a1
   have:=R (k - 1) k _ _ (by omega) (at_ (k - 1) (by omega)) (at_ k (by omega))
   omega
section
variable {prog:Program} {w:World} {A:Around} {E:Value→Shared→Prop} {s:Shared}
theorem R4 {t:SetTable} {n:Nat} (h:t.fits n=true):t.place.size=n:=by
 unfold SetTable.fits at h
 simp only [Bool.and_eq_true,beq_iff_eq] at h
 exact h.1
theorem WL (hh:A.handled=none) {a:Addr} {o:Obj} {es:Array (Int×Value)} {t:SetTable} {ep:Nat} {Q:Value→Shared→Prop} (ha:s.heap.get? a=some o) (hx:o.ExactSet) (hd:o.data=.set es ep t) (hf:t.fits es.size=true) (hz:es.size<scanBound) (I:TI (bo w) t)
  (q:∀ (h':Heap) (d:Drawn) (it:Addr) (fp:List Addr) (vs:List Value) (St:Nat→Heap→Prop),vs.Perm (es.toList.map (·.2))→(∀ b o,s.heap.get? b=some o→h'.get? b=some o)→(∀ b∈fp,b=a∨s.heap.objs.size≤b)→s.heap.objs.size≤it →
   Walks prog w A it fp [it] es.size (fun i v=>vs[i]? = some v) St→St 0 h'→Q (.ref it) { s with heap:=h',drawn:=d }):wpAny (model prog w) A (pyIter (.ref a)) Q E s:=by
 have hT:s.TypeIs (.ref a) "set":=⟨o,ha,hx.1⟩
 have hlt:a<s.heap.objs.size:=Heap.lt_size ha
 refine wpAny_pyIter_slot hT F.slot_set_iter (wpAny_call_entry F.slot_set_iter hT Wv ?_ (F.args_set_iter_1 _))
 unfold Builtin.«frozenset.__iter__» Builtin.Frozenset.slot0 slotArgs
 simp only [List.isEmpty_nil,Bool.not_true,Bool.false_eq_true,↓reduceIte,bind_assoc,List.length_nil,bne_self_eq_false]
 unfold Builtin.Frozenset.addrOf Builtin.Frozenset.sizeOf
 refine wpAny_bind (wpAny_pure ?_)
 dsimp only
 refine wpAny_bind (wpAny_pure (wpAny_bind (wpAny_bind (wpAny_setEntries_of ha hd hf (wpAny_pure ?_)))))
 unfold setDrawn setsByText
 refine wpAny_bind (wpAny_bind (wpAny_setState_of ha hd hf ?_))
 refine wpAny_bind (wpAny_bind (wpAny_askSetting (wpAny_pure (wpAny_pure ?_))))
 have Ra:∀ (sl:Nat→Nat) (vs:List Value),sl 0=0→vs.Perm (es.toList.map (·.2))→(∀ (k:Nat) (v:Value),vs[k]? = some v→∀ (s:Shared) (A:Around) (E:Value→Shared→Prop) (Q':Option (Value×Nat)→Shared→Prop),s.heap.get? a=some o→Q' (some (v,sl (k+1))) s→wpAny (model prog w) A (setNext a (sl k) k ep) Q' E s) →
   (∀ (s:Shared) (A:Around) (E:Value→Shared→Prop) (Q':Option (Value×Nat)→Shared→Prop),s.heap.get? a=some o→Q' none s→wpAny (model prog w) A (setNext a (sl es.size) es.size ep) Q' E s) →
   Q (.ref s.heap.objs.size) { s with heap:=s.heap.push { cls:=.type "set_iterator",dict:=none,data:=.fields [rawInt 0,rawInt 0,.ref a,rawInt es.size,rawInt ep].toArray } }:=fun sl vs h0 hp h1 h2=>by
  have hl:vs.length=es.size:=by rw [hp.length_eq,List.length_map,Array.length_toList]
  refine q _ s.drawn _ _ vs _ hp (fun b o e=>Heap.get?_push_of_some _ e) (fun b hb=>?_) (Nat.le_refl _) (WD hh (I:=s.heap.objs.size) (Nat.ne_of_lt hlt) hd hf sl vs hl h1 h2) ⟨⟨_,Heap.get?_push_size _ rfl,rfl,by rw [h0];rfl⟩,Heap.get?_push_of_some _ ha⟩
  rcases List.mem_cons.mp hb with z | z
  ·exact .inr (by rw [z];exact Nat.le_refl _)
  ·exact .inl (List.mem_singleton.mp z)
 by_cases hb:w.params.followText "set-order" = true
 ·rw [show (!(model prog w).w.params.followText "set-order")=false by show (!w.params.followText "set-order")=false;rw [hb];rfl,Bool.false_and]
  refine wpAny_ite_split (fun z=>absurd z (by decide)) (fun _=>wpAny_bind (wpAny_pure (wpAny_bind ?_)))
  unfold setEpoch
  refine wpAny_bind (wpAny_setState_of ha hd hf (wpAny_pure (wpAny_bind (wpAny_newObj_type (wpAny_pure ⟨_,rfl,"set_iterator",_,⟨_,Heap.get?_push_size _ rfl,rfl⟩,fW.lookup,?_⟩)))))
  have hp:=R0 (w.params.setOrder a ep) es
  refine Ra (fun _=>0) ((pickOrder (w.params.setOrder a ep) es).toList.map (·.2)) rfl (hp.map _) (fun k v hv s' A' E' Q' ha' y=>GR hb ha' hd hf ?_) (fun s' A' E' Q' ha' y=>GR hb ha' hd hf ?_)
  ·rw [List.getElem?_map,Array.getElem?_toList,Option.map_eq_some_iff] at hv
   obtain ⟨e,he,rfl⟩:=hv
   rw [he];exact y
  ·rw [Array.getElem?_eq_none (by rw [←Array.length_toList,hp.length_eq,Array.length_toList];exact Nat.le_refl _)];exact y
 ·have hb:w.params.followText "set-order" = false:=by simpa using hb
  have ab4:t.led=true:=by rw [I.led];unfold bo;rw [hb];rfl
  rw [show (!(model prog w).w.params.followText "set-order")=true by show (!w.params.followText "set-order")=true;rw [hb];rfl,Bool.true_and]
  refine wpAny_ite_split (fun z=>?_) (fun z=>?_)
  ·refine wpAny_bind (Q6 es.size (List.range es.size) _ _ (by rw [List.length_range]) fun ps d hp=>?_)
   have hpl:ps.length=es.size:=by rw [hp.length_eq,List.length_range]
   refine wpAny_bind ?_
   simp only [newTuple]
   refine wpAny_newObj_type (wpAny_bind ?_) (by show (ps.map _).toArray.size≤sizeLine;simp only [List.size_toArray,List.length_map,hpl];exact fits_of_scanBound hz)
   unfold setEpoch
   have ha2:(s.heap.push { cls:=.type "tuple",dict:=none,data:=.seq (ps.map fun (i:Nat)=>rawInt i).toArray }).get? a=some o:=Heap.get?_push_of_some _ ha
   refine wpAny_bind (wpAny_setState_of ha2 hd hf (wpAny_pure (wpAny_bind (wpAny_newObj_type (wpAny_pure ⟨_,rfl,"set_iterator",_,⟨_,Heap.get?_push_size _ rfl,rfl⟩,fW.lookup,?_⟩)))))
   have hsz:(s.heap.push { cls:=.type "tuple",dict:=none,data:=.seq (ps.map fun (i:Nat)=>rawInt i).toArray }).objs.size=s.heap.objs.size+1:=Heap.size_push ..
   have hpv:(ps.filterMap fun p=>(es[p]?).map (·.2)).Perm (es.toList.map (·.2)):=by
    refine (hp.filterMap _).trans (List.Perm.of_eq ?_)
    rw [←filterMap_getElem?_range es,List.map_filterMap]
   refine q _ d _ [_,a,s.heap.objs.size] (ps.filterMap fun p=>(es[p]?).map (·.2)) _ hpv (fun b o e=>Heap.get?_push_of_some _ (Heap.get?_push_of_some _ e)) (fun b hb=>?_) ?_ (WK hh (I:=(s.heap.push { cls:=.type "tuple",dict:=none,data:=.seq (ps.map fun (i:Nat)=>rawInt i).toArray }).objs.size) (tu:=s.heap.objs.size) (ot:={ cls:=.type "tuple",dict:=none,data:=.seq (ps.map fun (i:Nat)=>rawInt i).toArray }) (by rw [hsz];exact Nat.ne_of_lt (Nat.lt_succ_of_lt hlt)) (by rw [hsz];exact Nat.ne_of_lt (Nat.lt_succ_self _)) hd hf ps hp rfl _ rfl) ⟨⟨_,Heap.get?_push_size _ rfl,rfl,rfl⟩,Heap.get?_push_of_some _ ha2,Heap.get?_push_of_some _ (Heap.get?_push_size _ rfl)⟩
   ·simp only [List.mem_cons,List.not_mem_nil,or_false] at hb
    rcases hb with z | z | z
    ·exact .inr (by rw [z,hsz];exact Nat.le_succ _)
    ·exact .inl z
    ·exact .inr (by rw [z];exact Nat.le_refl _)
   ·rw [hsz];exact Nat.le_succ _
  ·have hnd:(!t.plain && decide (es.size > 1))=false:=Bool.eq_false_iff.mpr z
   refine wpAny_bind (wpAny_pure (wpAny_bind ?_))
   unfold setEpoch
   refine wpAny_bind (wpAny_setState_of ha hd hf (wpAny_pure (wpAny_bind (wpAny_newObj_type (wpAny_pure ⟨_,rfl,"set_iterator",_,⟨_,Heap.get?_push_size _ rfl,rfl⟩,fW.lookup,?_⟩)))))
   have hps:=R4 hf
   refine Ra (Ah t.place) (es.toList.map (·.2)) rfl (List.Perm.refl _) (fun k v hv s' A' E' Q' ha' y=>slot_next hb ab4 hnd ha' hd hf ?_) (fun s' A' E' Q' ha' y=>slot_next hb ab4 hnd ha' hd hf ?_)
   ·rw [List.getElem?_map,Array.getElem?_toList,Option.map_eq_some_iff] at hv
    obtain ⟨⟨hk,v'⟩,he,rfl⟩:=hv
    have hk':k<es.size:=(Array.getElem?_eq_some_iff.mp he).1
    rw [Kh I.rise (by omega),he,Array.getElem?_eq_getElem (by omega)]
    dsimp only
    have:Ah t.place (k+1)=(t.place[k]'(by omega))+1:=by
     unfold Ah
     rw [if_neg (by omega),Nat.add_sub_cancel,Array.getD_eq_getD_getElem?,Array.getElem?_eq_getElem (by omega)];rfl
    rw [this] at y
    exact y
   ·rw [Kh I.rise (by omega),Array.getElem?_eq_none (Nat.le_refl _)]
    exact y
end
end SD
namespace SR
open PySem PyProof.Rows
section
variable {prog:Program} {w:World} {A:Around} {E:Value→Shared→Prop} {s:Shared}
def nI:Value→Int
 | .int i _=>i
 | _=>0
theorem Mw {a b:Int} {t u:Tok} (hu:A.units<cLine) {Q:Bool→Shared→Prop} (q:Q (decide (a<b)) s):wpAny (model prog w) A (oneLt' true (.int a t) (.int b u)) Q E s:=by
 rw [oneLt'_eq]
 simp only [if_true]
 refine wpAny_bind (wpAny_cRoomFor hu ?_)
 refine wpAny_bind (wpAny_callSpecialIfBound?_slot (typeIs_int s a t) slot_int_lt (call_int_lt ?_))
 exact wpAny_truthy_bool q
theorem WM {ok:Keyed→Prop} (hu:A.units<cLine) (hk:∀ x,ok x→∃ t,x.1=.int (nI x.1) t):zc prog w A E s (fun x=>nI x.1) ok:=by
 intro x y st Q ox oy kd q
 rw [lt'_eq]
 refine wpS_bind (wpS_get ?_)
 rw [kd,keyLt'_oneType]
 obtain ⟨t,ex⟩:=hk x ox
 obtain ⟨u,ey⟩:=hk y oy
 rw [ex,ey]
 refine wpS_bind (wpS_lift (wpAny_attempt (Mw hu ?_)))
 exact ⟨rfl,wpS_pure q⟩
theorem R6 {a:Addr} {n:Nat} {vs:List Value} {P:PySem.Fin→Shared→Prop} (hu:A.units<cLine) (ho:s.heap.get? a=some (seqObj "list" vs.toArray n)) (hv:∀ v∈vs,∃ t,v=.int (nI v) t) (nd:(vs.map nI).Nodup) (hz:vs.length<128)
  (q:∀ out:List Value,out.Perm vs→out.Pairwise (fun u v=>nI u<nI v)→P (.done (.ret .none)) { s with heap:=sortedHeap s.heap a vs out.toArray }):wpAny (model prog w) A (Builtin.«list.sort» ⟨[.ref a],[]⟩) P E s:=by
 obtain ⟨e1,c1⟩:∃ e1,(s.heap.update a (Obj.mapSeq fun _=>(#[]:Array Value))).get? a=some (seqObj "list" #[] e1):=⟨_,get?_update_seq ho fun _=>#[]⟩
 have c2:(((s.heap.update a (Obj.mapSeq fun _=>(#[]:Array Value))).push (seqObj "tuple" vs.toArray 0)).push (seqObj "list" #[] 0)).get? a=some (seqObj "list" #[] e1):=Heap.get?_push_of_some _ (Heap.get?_push_of_some _ c1)
 have small:vs.length≤sizeLine:=by rw [sizeLine_eq];omega
 have hza:vs.toArray.size=vs.length:=List.size_toArray
 have tH:∀ (st':SortSt),(arrOf st').Perm (pairsOf vs)→iJ (fun x=>nI x.1) (arrOf st').toList→P (.done (.ret .none)) { s with heap:=sortedHeap s.heap a vs ((arrOf st').map (·.2)) }:=fun st' h1 h2=>by
  obtain ⟨g1,g2⟩:=QZ h1 h2
  have:=q _ g1 g2
  rw [Array.toArray_toList] at this
  exact this
 rw [list_sort_plain]
 refine wpAny_bind (listItems_at ho rfl (wpAny_bind (listUpdate_at ho rfl (wpAny_bind (seqEpoch_at c1 rfl (wpAny_bind (wpAny_newTuple (wpAny_bind (wpAny_newList (wpAny_holding ?_) (Nat.zero_le _))) (by show vs.length≤_;rw [sizeLine_eq];omega))))) (by rw [hza];exact small) (Nat.zero_le _))))
 show wpAny (model prog w) A _ P E (Shared.mk (((s.heap.update a (Obj.mapSeq fun _=>(#[]:Array Value))).push (seqObj "tuple" vs.toArray 0)).push (seqObj "list" #[] 0)) s.gens s.drawn s.toks s.os)
 dsimp only
 by_cases h2:vs.toArray.size<2
 ·rw [if_pos h2,if_pos h2]
  refine wpAny_bind (wpAny_pure ?_)
  rw [StateT.run_pure]
  refine wpAny_bind (wpAny_pure ?_)
  dsimp only
  refine wpAny_bind (seqEpoch_at c2 rfl (wpAny_bind (listUpdate_at c2 rfl ?_ (Nat.zero_le _) (by rw [Array.size_map];show (pairsOf vs).size≤_;rw [pairsOf_size,sizeLine_eq];omega))))
  rw [if_neg (by simp)]
  refine wpAny_pure (tH (SortSt.mk' general' (vs.toArray.zip vs.toArray) #[] 7 none) (Array.Perm.refl _) ?_)
  show iJ _ (pairsOf vs).toList
  rw [gA]
  have h3:vs.length<2:=by rw [←hza];exact h2
  match vs,h3 with
  | [],_=>exact List.Pairwise.nil
  | [v],_=>exact List.pairwise_singleton _ _
 ·rw [if_neg h2,if_neg h2]
  refine wpAny_bind (PySem.W.kas_kind (T:=.type "int") (by omega) (fun v hm=>by
   obtain ⟨t,e⟩:=hv v hm
   rw [e]
   exact PySem.W.Looks.of_pure rfl) (by decide) (by decide) ?_)
  have kp:(pairsOf vs).toList.map (fun x=>nI x.1)=vs.map nI:=by rw [gA,List.map_map];rfl
  have Wr:∀ x∈(pairsOf vs).toList,x.1∈vs:=fun x hx=>by
   rw [gA] at hx
   obtain ⟨v,hm,rfl⟩:=List.mem_map.mp hx
   exact hm
  have hL:zc prog w A E (Shared.mk (((s.heap.update a (Obj.mapSeq fun _=>(#[]:Array Value))).push (seqObj "tuple" vs.toArray 0)).push (seqObj "list" #[] 0)) s.gens s.drawn s.toks s.os) (fun x=>nI x.1) (fun x=>x∈(pairsOf vs).toList) :=
   WM hu fun x hx=>hv x.1 (Wr x hx)
  have run:=QX (a0:=pairsOf vs) (st:=SortSt.mk' oneType' (vs.toArray.zip vs.toArray) #[] 7 none) (Q:=fun _ st'=>(arrOf st').Perm (pairsOf vs)∧failedOf st' = none∧iJ (fun x=>nI x.1) (arrOf st').toList) hL (by rw [pairsOf_size];omega) (by rw [pairsOf_size];exact hz) ⟨Array.Perm.refl _,rfl,rfl,fun x hx=>hx,by rw [kp];exact nd,fun _ _=>rfl⟩ rfl (fun st' P' up=>⟨P'.pm,P'.fl,by
    have:=HF (lo:=0) up (by rw [P'.size];omega)
    rw [List.drop_zero,List.take_of_length_le (by rw [Array.length_toList,P'.size];exact Nat.le_refl _)] at this
    exact this⟩)
  refine wpAny_bind (wpAny_mono run ?_ fun _ _ e=>e)
  rintro ⟨⟨⟩,st'⟩ s' ⟨rfl,g1,g2,g3⟩
  dsimp only
  refine wpAny_bind (seqEpoch_at c2 rfl (wpAny_bind (listUpdate_at c2 rfl ?_ (Nat.zero_le _) (by rw [Array.size_map,g1.size_eq,pairsOf_size,sizeLine_eq];omega))))
  rw [g2]
  dsimp only
  rw [if_neg (by simp)]
  exact wpAny_pure (tH st' g1 g3)
end
end SR
namespace SD
open PySem PyProof.Rows
section
variable {prog:Program} {w:World} {A:Around} {E:Value→Shared→Prop} {s:Shared}
theorem Mx {R:Result→Shared→Prop} (hh:A.handled=none) {a L:Addr} {o:Obj} {es:Array (Int×Value)} {t:SetTable} {ep c:Nat} (res:Value) (ha:s.heap.get? a=some o) (hx:o.ExactSet) (hd:o.data=.set es ep t) (hf:t.fits es.size=true) (hz:es.size<scanBound) (I:TI (bo w) t) (hne:L≠a)
  (hL:s.heap.get? L=some { cls:=.type "list",data:=.seq #[] c })
  (q:∀ (h':Heap) (d:Drawn) (tk:Nat) (acc:Array Value) (c':Nat),(∀ b o,b≠L→s.heap.get? b=some o→h'.get? b=some o)→h'.get? L=some { cls:=.type "list",dict:=none,data:=.seq acc c',slots:=#[] }→acc.toList.Perm (es.toList.map (·.2))→R (.ok (.ret res)) { s with heap:=h',drawn:=d,toks:=tk }) :
  wpAny (model prog w) A.in1 (Builtin.List.listExtendWith (.ref L) (.ref a) res) (fun fin s'=>match fin with | .done f=>R (.ok f) s' | .again c'=>c'.quiet=true∧codeAny (model prog w) A c' R s') (fun e s'=>R (.error e) s') s:=by
 have hn:es.size≤sizeLine:=fits_of_scanBound hz
 have hT:s.TypeIs (.ref a) "set":=⟨o,ha,hx.1⟩
 unfold Builtin.List.listExtendWith
 refine wpAny_bind (wpAny_typeOf (T:="set") hT ?_)
 have h1:Builtin.List.listSameRef (.ref L) (.ref a)=false:=by simp [Builtin.List.listSameRef,hne]
 have n1:(Value.type "set" == Value.type "list")=false:=by decide
 have n2:(Value.type "set" == Value.type "tuple")=false:=by decide
 simp only [h1,n1,n2,Bool.or_false,Bool.false_eq_true,if_false]
 refine wpAny_bind (WL (A:=A.in1) hh ha hx hd hf hz I fun h1 d it fp vs St hp hk hfp hit W st=>?_)
 have hLlt:L<s.heap.objs.size:=Heap.lt_size hL
 have hLf:L ∉ fp:=fun z=>(hfp L z).elim hne fun y=>absurd hLlt (Nat.not_lt.mpr y)
 have hvl:vs.length=es.size:=by rw [hp.length_eq,List.length_map,Array.length_toList]
 have key:∀ (h:Heap) (c₁ tk:Nat),St 0 h→(∀ b o,b≠L→s.heap.get? b=some o→h.get? b=some o)→h.get? L=some { cls:=.type "list",data:=.seq #[] c₁ } →
   codeAny (model prog w) A (.builtin "list.extend.loop" ⟨[.ref L,.ref it,res],[]⟩) R { s with heap:=h,drawn:=d,toks:=tk }:=fun h c₁ tk st hk2 hL2=>by
  refine codeAny_extend_loopS W.toS hn L hLf res es.size 0 _ #[] c₁ rfl (Nat.zero_le _) st hL2 (ItemsOf.nil _) fun s' acc c' m hL3 hacc=>?_
  rw [Moved.eq_with m]
  refine q s'.heap d s'.toks acc c' (fun b o' hb e=>m.heap b o' (fun z=>?_) (hk2 b o' hb e)) hL3 ?_
  ·rcases List.mem_cons.mp z with y | y
   ·exact hb y
   ·exact absurd (Heap.lt_size e) (Nat.not_lt.mpr (by rw [List.mem_singleton.mp y];exact hit))
  ·have:acc.toList=vs:=by
    refine List.ext_getElem? fun i=>?_
    rw [Array.getElem?_toList]
    by_cases e:i<es.size
    ·have hi:i<acc.size:=by rw [hacc.1];exact e
     rw [Array.getElem?_eq_getElem hi,hacc.2 i _ (Array.getElem?_eq_getElem hi)]
    ·rw [Array.getElem?_eq_none (by rw [hacc.1];omega),List.getElem?_eq_none (by omega)]
   rw [this];exact hp
 have hL1:=hk L _ hL
 refine wpAny_bind (wpAny_holding (Ww (s:={ s with heap:=h1,drawn:=d }) (show Shared.TypeIs { s with heap:=h1,drawn:=d } (.ref a) "set" from ⟨o,hk a o ha,hx.1⟩) ?_))
 refine wpAny_ite_split (fun _=>?_) (fun _=>wpAny_pure ⟨plainId_quiet PySem.F.plain_extend_loop _,key _ c _ st (fun b o' _ e=>hk b o' e) hL1⟩)
 refine wpAny_bind (wpAny_rule (wpAny_bind ?_))
 refine (show wpAny _ _ (updateSeq L (·.push .none) >>= fun _=>updateSeq L (·.pop)) _ _ _ from wpAny_bind (wpAny_updateSeq hL1 rfl ?_))
 have hL2:=Heap.get?_update_self (Obj.mapSeq (·.push Value.none)) hL1 rfl
 refine wpAny_updateSeq (hz:=by seq_fits) hL2 rfl ?_
 have hL3:=Heap.get?_update_self (Obj.mapSeq (·.pop)) hL2 rfl
 refine wpAny_pure ⟨plainId_quiet PySem.F.plain_extend_loop _,key _ _ _ (W.frame 0 _ _ st fun b hb o' e=>?_) (fun b o' hb e=>?_) hL3⟩
 ·have hbL:b≠L:=fun z=>hLf (z ▸ hb)
  exact (Heap.get?_update_other _ _ (Ne.symm hbL)).trans ((Heap.get?_update_other _ _ (Ne.symm hbL)).trans e)
 ·exact (Heap.get?_update_other _ _ (Ne.symm hb)).trans ((Heap.get?_update_other _ _ (Ne.symm hb)).trans (hk b o' e))
theorem Kl {R:List Value→Shared→Prop} (hh:A.handled=none) {a:Addr} {o:Obj} {es:Array (Int×Value)} {t:SetTable} {ep:Nat} (ha:s.heap.get? a=some o) (hx:o.ExactSet) (hd:o.data=.set es ep t) (hf:t.fits es.size=true) (hz:es.size<scanBound) (I:TI (bo w) t)
  (q:∀ (h':Heap) (d:Drawn) (tk:Nat) (us:List Value),(∀ b o,s.heap.get? b=some o→h'.get? b=some o)→s.heap.objs.size<h'.objs.size→us.Perm (es.toList.map (·.2))→R us { s with heap:=h',drawn:=d,toks:=tk }):wpAny (model prog w) A (collect (.ref a)) R E s:=by
 have hlt:a<s.heap.objs.size:=Heap.lt_size ha
 unfold collect
 refine wpAny_bind (wpAny_runValue (codeAny_builtin entry_proto_collect' ?_))
 rw [Around.under_plainId PySem.F.plain_proto_collect _]
 refine (show wpAny _ A.in1 (newList [] >>= fun l=>again (.builtin "list.__iadd__" ⟨[l,.ref a],[]⟩)) _ _ s from wpAny_bind (wpAny_newObj_type ?_))
 refine wpAny_pure ⟨plainId_quiet PySem.F.plain_list_iadd _,codeAny_builtin entry_list_iadd' ?_⟩
 rw [Around.under_plainId PySem.F.plain_list_iadd _]
 have hL:(s.heap.push { cls:=.type "list",data:=.seq ([]:List Value).toArray }).get? s.heap.objs.size=some { cls:=.type "list",data:=.seq #[] 0 }:=Heap.get?_push_size _ rfl
 have key:=Mx (A:=A) (w:=w) (prog:=prog) (s:={ s with heap:=s.heap.push { cls:=.type "list",data:=.seq ([]:List Value).toArray } }) (L:=s.heap.objs.size)
  (R:=fun (r:Result) (s':Shared)=>∃ (h':Heap) (d:Drawn) (tk:Nat) (acc:Array Value) (c':Nat),r=.ok (.ret (.ref s.heap.objs.size))∧s' = { s with heap:=h',drawn:=d,toks:=tk }∧(∀ b o,s.heap.get? b=some o→h'.get? b=some o)∧h'.get? s.heap.objs.size=some { cls:=.type "list",dict:=none,data:=.seq acc c',slots:=#[] }∧acc.toList.Perm (es.toList.map (·.2)))
  hh (.ref s.heap.objs.size) (Heap.get?_push_of_some _ ha) hx hd hf hz I (Nat.ne_of_gt hlt) hL fun h' d tk acc c' hk hL2 hp=>⟨h',d,tk,acc,c',rfl,rfl,fun b o' e=>hk b o' (Nat.ne_of_lt (Heap.lt_size e)) (Heap.get?_push_of_some _ e),hL2,hp⟩
 refine (show wpAny _ A.in1 (Builtin.List.listExtendWith (.ref s.heap.objs.size) (.ref a) (.ref s.heap.objs.size)) _ _ _ from wpAny_mono key (fun fin s' x=>?_) fun e s' x=>?_)
 ·cases fin with
  | done f =>
   obtain ⟨h',d,tk,acc,c',e,rfl,hk,hL2,hp⟩:=x
   cases e
   exact (show wpAny _ A (load s.heap.objs.size >>= _) _ _ _ from wpAny_bind (wpAny_load hL2 (wpAny_pure (q h' d tk _ hk (Heap.lt_size hL2) hp))))
  | again c₁ =>
   refine ⟨x.1,codeAny_mono x.2 fun r s₂ y=>?_⟩
   obtain ⟨h',d,tk,acc,c',rfl,rfl,hk,hL2,hp⟩:=y
   exact (show wpAny _ A (load s.heap.objs.size >>= _) _ _ _ from wpAny_bind (wpAny_load hL2 (wpAny_pure (q h' d tk _ hk (Heap.lt_size hL2) hp))))
 ·obtain ⟨_,_,_,_,_,e',_⟩:=x
  cases e'
end
end SD
namespace SD
open PySem PyProof.Rows
theorem Bv {l:List Int} {k:Int}:l.any (· == k)=true ↔ k∈l:=by
 rw [List.any_eq_true]
 exact ⟨fun ⟨x,h1,h2⟩=>by rw [←eq_of_beq h2];exact h1,fun h=>⟨k,h,beq_self_eq_true k⟩⟩
theorem Mz (val:Nat→Int):∀ i,(firstMet val i).Nodup
 | 0=>List.nodup_nil
 | i+1=>by
  rw [firstMet_succ]
  unfold step_dedup
  split
  ·exact Mz val i
  ·rename_i h
   refine List.nodup_append.mpr ⟨Mz val i,by simp,fun a ha b hb e=>?_⟩
   rw [List.mem_singleton.mp hb] at e
   exact h (Bv.mpr (e ▸ ha))
theorem Yq (ns:List Int) (k:Int):k∈firstMet (fun i=>ns.getD i 0) ns.length ↔ k∈ns:=by
 rw [←Bv,firstMet_any,Bv]
 have:(List.range ns.length).map (fun i=>ns.getD i 0)=ns:=by
  refine List.ext_getElem? fun i=>?_
  rw [List.getElem?_map]
  by_cases h:i<ns.length
  ·rw [List.getElem?_range h,List.getElem?_eq_getElem h]
   simp [List.getD_eq_getElem?_getD,List.getElem?_eq_getElem h]
  ·rw [List.getElem?_eq_none (by rw [List.length_range];omega),List.getElem?_eq_none (by omega)];rfl
 rw [this]
theorem GX:∀ {l m:List Int},l.Nodup→(∀ x∈l,x∈m)→m.length≤l.length→m.Perm l
 | [],m,_,_,h=>by
  obtain rfl:m=[]:=List.eq_nil_of_length_eq_zero (by simpa using h)
  exact List.Perm.refl _
 | x::r,m,nd,hs,h=>by
  rw [List.nodup_cons] at nd
  have hx:=hs x List.mem_cons_self
  refine (List.perm_cons_erase hx).trans (List.Perm.cons x ?_)
  refine GX nd.2 (fun y hy=>(List.mem_erase_of_ne fun z:y=x=>nd.1 (z ▸ hy)).mpr (hs y (List.mem_cons_of_mem _ hy))) ?_
  rw [List.length_erase_of_mem hx]
  rw [List.length_cons] at h
  omega
end SD
namespace L2
open PySem PySem.Spec PyProof.Rows
def Yr (P:Program) (w:World) (a:Addr) (ms:List Int):HO:=.ext fun h=>SD.pD P w h a (fun j=>ms.any (· == j)) ms.length (SD.bo w)
section
variable {X:Cx} {pins:List (Addr×Obj)} {σ:St} {H:Hp} {s:Shared}
theorem Inv.WQ (I:Inv X pins σ H s) (d:Drawn):Inv X pins σ H { s with drawn:=d }:=⟨I.ok,I.os,I.bare,I.base,I.loc,I.cell,I.free,I.freeC,I.pin,I.hok,I.len⟩
def WR (P:Program) (w:World) (K:PySem.W.Frag):List V→Hp→VK→Prop:=fun xs H Q=>∃ (p:Addr) (ns:List Int),xs=[.ref p]∧SqL K H p (ns.map V.int)∧ns.length≤4000∧∀ (a:Addr) (ms:List Int),H a=none→ms.Nodup→(∀ k,k∈ms ↔ k∈ns)→Q (.ref a) (upd H a (Yr P w a ms))
theorem R9 (hc:X.calm=true):CallR X (.type "set") (WR X.prog X.w X.K):=by
 intro pins s σ H xs us Q I r h
 obtain ⟨p,ns,rfl,hq,hl,q⟩:=h
 obtain ⟨u,rfl,rx⟩:=vals1 r
 cases rx
 obtain ⟨its,rv,pl,hz⟩:=I.list hq
 have hi:IntsAre its ns:=intsAre_of rv
 have hil:its.length=ns.length:=IntsAre.length hi
 refine SD.aaN (I.ok.hd hc) pl.isList (by simpa using hi) (by rw [List.size_toArray,hil];unfold scanBound;omega) fun h' tk S hk=>?_
 rw [show its.toArray.size=ns.length by rw [List.size_toArray,hil]] at S
 have S':SD.pD X.prog X.w h' s.heap.objs.size (fun j=>(firstMet (fun i=>ns.getD i 0) ns.length).any (· == j)) (firstMet (fun i=>ns.getD i 0) ns.length).length (SD.bo X.w):=S
 refine ⟨.ref s.heap.objs.size,_,I.laid (t':=tk) (o:=Yr X.prog X.w s.heap.objs.size (firstMet (fun i=>ns.getD i 0) ns.length)) (fun b o e=>hk b o (Heap.lt_size e) e) (Nat.le_refl _) ?_,rfl,q _ _ (I.hok.fresh (Nat.le_refl _)) (SD.Mz _ _) (SD.Yq ns)⟩
 obtain ⟨o,_,_,_,e,_⟩:=id S'
 exact ⟨S',⟨o,e⟩,fun h1 h2 x k=>SD.pD.at x k⟩
def WT (P:Program) (w:World):List V→Hp→VK→Prop:=fun xs H Q=>∃ (a:Addr) (ms:List Int),xs=[.ref a]∧H a=some (Yr P w a ms)∧ms.Nodup∧ms.length<128∧∀ (out:List Int) (l:Addr),out.Perm ms→out.Pairwise (· < ·)→H l=none→Q (.ref l) (upd H l (.lst (out.map V.int)))
theorem Rb:∀ (us:List Value),(∀ v∈us,∃ t,v=.int (SR.nI v) t)→Vals ((us.map SR.nI).map V.int) us
 | [],_=>.nil
 | v::r,h=>.cons (h v List.mem_cons_self) (Rb r fun u hu=>h u (List.mem_cons_of_mem _ hu))
theorem MF (hc:X.calm=true) (hu:X.A.units+2<cLine):CallR X (.builtin "sorted") (WT X.prog X.w):=by
 intro pins s σ H xs us Q I r h
 obtain ⟨a,ms,rfl,hH,nd,hz,q⟩:=h
 obtain ⟨u,rfl,rx⟩:=vals1 r
 cases rx
 obtain ⟨S,_,_⟩:=(show ObjOk X.prog X.w H s.heap a (Yr X.prog X.w a ms) from I.hok a _ hH)
 obtain ⟨o,es,ep,t,ho,hx,hd,hel,hm,hes,hf,hn,TT⟩:=S
 refine Calls.call_function_entry kind_sorted plain_sorted entry_sorted (args_sorted1 _) ?_
 unfold Builtin.«sorted»
 refine wpAny_bind (m:=checkCount "sorted" 1 1 _) (wpAny_pure (wpAny_bind (SD.Kl (A:=X.A.in1) (show X.A.in1.handled=none from I.ok.hd hc) ho hx hd hf hes TT fun h' d tk us hk hle hp=>?_)))
 have hlen:us.length=ms.length:=by rw [hp.length_eq,List.length_map,Array.length_toList];exact hn
 have hint:∀ v∈us,∃ t,v=.int (SR.nI v) t:=fun v hv=>by
  obtain ⟨e,he,rfl⟩:=List.mem_map.mp (hp.mem_iff.mp hv)
  obtain ⟨⟨k,hk,_⟩,_⟩:=hel e he
  obtain ⟨t,e2⟩:=Value.isInt_shape (show Value.isInt k e.2=true from hk)
  rw [e2];exact ⟨t,rfl⟩
 have pm:(us.map SR.nI).Perm ms:=by
  refine SD.GX nd (fun k hk2=>?_) (by rw [List.length_map,hlen];exact Nat.le_refl _)
  obtain ⟨e,he,hk3⟩:=(hm k).mp (SD.Bv.mpr hk2)
  obtain ⟨t,e2⟩:=Value.isInt_shape (show Value.isInt k e.2=true from hk3)
  exact List.mem_map.mpr ⟨e.2,hp.mem_iff.mpr (List.mem_map_of_mem he),by rw [e2];rfl⟩
 have nd2:(us.map SR.nI).Nodup:=pm.nodup_iff.mpr nd
 have g:(h'.push (seqObj "list" us.toArray 0)).get? h'.objs.size=some (seqObj "list" us.toArray 0):=Heap.get?_push_size _ rfl
 refine wpAny_bind (wpAny_newList ?_ (by rw [sizeLine_eq];omega))
 refine wpAny_bind (wpAny_holding (wpAny_call_entry slot_list_sort (show Shared.TypeIs { s with heap:=h'.push (seqObj "list" us.toArray 0),drawn:=d,toks:=tk } (.ref h'.objs.size) "list" from ⟨_,g,rfl⟩) entry_list_sort (SR.R6 (by show X.A.units+1+1<cLine;omega) g hint nd2 (by omega) fun out h1 h2=>⟨_,rfl,wpAny_pure ⟨_,rfl,?_⟩⟩) (args_list_sort _)))
 obtain ⟨c,hc2⟩:=sortedHeap_at (out:=out.toArray) g
 have keep:∀ b o,s.heap.get? b=some o→(sortedHeap (h'.push (seqObj "list" us.toArray 0)) h'.objs.size us out.toArray).get? b=some o:=fun b o' e=>by
  have e2:=hk b o' e
  have hb:=Heap.lt_size e2
  rw [sortedHeap_old (Nat.ne_of_lt hb) (by rw [size_push'];exact Nat.lt_succ_of_lt hb)]
  exact Heap.get?_push_of_some _ e2
 have ab5:∀ v∈out,∃ t,v=.int (SR.nI v) t:=fun v hv=>hint v (h1.mem_iff.mp hv)
 have fr:H h'.objs.size=none:=I.hok.fresh (Nat.le_of_lt hle)
 refine ⟨.ref h'.objs.size,_,((I.laid (t':=tk) (o:=.lst ((out.map SR.nI).map V.int)) keep (Nat.le_of_lt hle) ⟨?_,out,c,Rb out ab5,hc2⟩).WQ d),rfl,q _ _ ((h1.map _).trans pm) (List.pairwise_map.mpr h2) fr⟩
 rw [List.length_map,List.length_map,h1.length_eq,sizeLine_eq];omega
end
end L2
namespace L2
open PySem PySem.Spec PyProof.Rows
theorem Sd {X:Cx} {K:PySem.W.Frag} (h:X.K=K) (hc:X.calm=true):CallR X (.type "set") (WR X.prog X.w K):=by subst h;exact R9 hc
theorem MN {P P':Program} {w w':World} {K:PySem.W.Frag} {p:Addr} {H:Hp} {Q:VK} {ns:List Int} (hP:P' = P) (hw:w' = w) (hS:SqL K H p (ns.map V.int)) (hl:ns.length≤4000) (few:∀ ms:List Int,ms.Nodup→(∀ k,k∈ms→k∈ns)→ms.length<128)
  (q:∀ (out:List Int) (l:Addr) (H2:Hp),out.Pairwise (· < ·)→(∀ k,k∈out ↔ k∈ns)→H l=none→H2 l=some (.lst (out.map V.int))→Same H H2→Q (.ref l) H2):WR P w K [.ref p] H (fun x H1=>WT P' w' [x] H1 Q):=by
 subst hP hw
 refine ⟨p,ns,rfl,hS,hl,fun a ms ha nd hm=>⟨a,ms,rfl,upd_same,nd,few ms nd fun k hk=>(hm k).mp hk,fun out l hp hs hl2=>?_⟩⟩
 have hla:l≠a:=fun z=>by rw [z,upd_same] at hl2;cases hl2
 have hl0:H l=none:=by rw [upd_ne hla] at hl2;exact hl2
 exact q out l _ hs (fun k=>hp.mem_iff.trans (hm k)) hl0 upd_same ((Same.new ha).trans (Same.new hl2))
end L2
namespace L2
open PySem PySem.Spec PyProof.Rows
section
variable {X:Cx}
end
end L2
set_option maxHeartbeats 4000000
local macro_rules | `(tactic| walk_at "wp")=>`(tactic| (try simp only [L2.Qw,L2.JL,L2.PB,L2.PJ,L2.PK,L2.PL,L2.Hq,L2.Hr,L2.Ck,L2.PN,L2.Vk,L2.Vl,L2.PX,L2.P0,L2.Qa,L2.Gk,L2.Gm,L2.Gn,L2.Qc,L2.Vt,Option.isSome_none,Option.isSome_some,L2.Vx,L2.Qe,L2.Qf,L2.Qg,L2.JG,L2.Qh,L2.Gs,L2.JH,L2.Gu,L2.Cv,L2.GK,L2.CG,L2.Gz,L2.Ol,L2.Om,L2.abD,L2.YT,L2.YW,L2.Ug,L2.Uh,L2.Ui,L2.Uj,L2.Uk,L2.Ul,L2.Um,L2.Oo,L2.Oq,L2.Ln,L2.Uo,L2.Ot,L2.YX,L2.Uq,L2.YZ,L2.Ur,L2.Ou,L2.Ov,L2.Y0,L2.Us,L2.Ow,L2.Ut,L2.Uu,L2.Ox,L2.Uv,L2.G9,L2.Uw,L2.Oz,L2.OD,L2.Y4,L2.Ux,L2.OJ,L2.Uy,L2.Uz,L2.UG,L2.Y5,L2.O1,L2.O2,L2.O4,L2.Js,L2.O5,L2.O6,L2.O7,L2.O8,L2.Jt,L2.Y6,L2.Y7,L2.Ga,L2.O9,L2.UJ,L2.UL,L2.Pa,L2.UW,L2.Gb,L2.Pb,L2.Pg,L2.U0,L2.Jv,L2.Jw,L2.Gf,L2.U7,L2.Pk,L2.Ue,L2.Od,L2.Jk,L2.FN,L2.Oe,L2.Og,L2.Oh,L2.Jo,if_true,if_false,L2.BJ,L2.zW,L2.Jp,L2.Oj,L2.Jq,L2.FQ,L2.Jr,List.map_cons,List.map_nil,List.length_cons,List.length_nil,List.cons_append,List.nil_append,List.append_nil,List.replicate,Nat.reduceAdd,Nat.reduceSub,List.set_cons_zero,List.set_cons_succ,Int.reduceLT,Int.reduceLE,Int.reduceNeg,Int.reducePow,Int.reduceToNat,Int.reduceAdd,Int.reduceMul,Int.toNat_natCast,Int.zero_add,true_and,and_true,Bool.not_true,Bool.not_false]))
local macro_rules | `(tactic| walk_at "cast")=>`(tactic| simp only [My.vI,Int.natCast_add,Int.natCast_mul,Int.natCast_emod,Int.natCast_ediv,Int.natCast_one,Int.natCast_succ,Nat.pow_succ,Int.natCast_pow,Int.cast_ofNat_Int])
local macro_rules | `(tactic| walk_at "wq")=>`(tactic| (try simp only [L2.Qw,L2.JL,L2.PB,L2.PJ,L2.PK,L2.PL,L2.Hq,L2.Hr,L2.Ck,L2.PN,L2.Vk,L2.Vl,L2.PX,L2.P0,L2.Qa,L2.Gk,L2.Gm,L2.Gn,L2.Qc,L2.Vt,Option.isSome_none,Option.isSome_some,L2.Vx,L2.Qe,L2.Qf,L2.Qg,L2.JG,L2.Qh,L2.Gs,L2.JH,L2.Gu,L2.Cv,L2.GK,L2.CG,L2.Gz,L2.Ol,L2.Om,L2.abD,L2.YT,L2.YW,L2.Ug,L2.Uh,L2.Ui,L2.Uj,L2.Uk,L2.Ul,L2.Um,L2.Oo,L2.Oq,L2.Ln,L2.Uo,L2.Ot,L2.YX,L2.Uq,L2.YZ,L2.Ur,L2.Ou,L2.Ov,L2.Y0,L2.Us,L2.Ow,L2.Ut,L2.Uu,L2.Ox,L2.Uv,L2.G9,L2.Uw,L2.Oz,L2.OD,L2.Y4,L2.Ux,L2.OJ,L2.Uy,L2.Uz,L2.UG,L2.Y5,L2.O1,L2.O2,L2.O4,L2.Js,L2.O5,L2.O6,L2.O7,L2.O8,L2.Jt,L2.Y6,L2.Y7,L2.Ga,L2.O9,L2.UJ,L2.UL,L2.Pa,L2.UW,L2.Gb,L2.Pb,L2.Pg,L2.U0,L2.Jv,L2.Jw,L2.Gf,L2.U7,L2.Pk,L2.Ue,L2.Od,L2.Jk,L2.FN,L2.Oe,L2.Og,L2.Oh,L2.Jo,if_true,if_false,L2.BJ,L2.zW,L2.Jp,L2.Oj,L2.Jq,L2.FQ,L2.Jr,List.map_cons,List.map_nil,List.length_cons,List.length_nil,List.cons_append,List.nil_append,List.append_nil,Nat.reduceAdd,Nat.reduceSub,List.set_cons_zero,List.set_cons_succ,Int.reduceLT,Int.reduceLE,Int.reduceNeg,Int.reducePow,Int.reduceToNat,Int.reduceAdd,Int.reduceMul,Int.toNat_natCast,Int.zero_add,true_and,and_true,Bool.not_true,Bool.not_false]))
namespace My
open PySem PySem.Spec PyProof.Rows L2
def top (i:Nat):Stmt:=PySem.Challenge.pw_figurefall_k42_whole_over_all.main.body.getD i (.Pass ⟨0,0,0,0⟩)
structure Txt (mg:Str→Option Value):Prop where
 aaO:mg "bool" = none
 aaP:mg "dict" = none
 mV:mg "enumerate" = none
 Zr:mg "int" = none
 gY:mg "isinstance" = none
 cQ:mg "len" = none
 vM:mg "list" = none
 WW:mg "min" = none
 cO:mg "range" = none
 ab6:mg "set" = none
 Km:mg "sorted" = none
 ab7:mg "str" = none
 Zt:mg "sum" = none
 HY:GI mg "LEAST_BASE" 2
 Ko:GI mg "MOST_BASE" 16
 Ia:GI mg "MOST_BOOKS" 20
 Ib:GI mg "MOST_BOUND" 451
 tK:GI mg "MOST_COUNTED" 20
 Kq:GI mg "MOST_FALL" 1000
 CK:GI mg "MOST_FIGURES" 1001
 Kr:GI mg "MOST_KEPT" 200
 xH:GI mg "MOST_ONE_BY_ONE" 3000
 jW:GI mg "MOST_WORTH" 50
 gZ:mg "counts_below_counts" = mg "counts_below"
 jX:mg "counts_one_by_one_counts" = mg "counts_one_by_one"
 uR:mg "number_at_places" = mg "number_at"
 vN:mg "place_of_places" = mg "place_of"
abbrev jY:Stmt:=top 64
noncomputable def tL:{ s:Scope // defScope jY=s }:=by
 refine ⟨?_,?_⟩
 rotate_left
 ·conv=>lhs;whnf
noncomputable def CN:{ b:List Stmt // defBody jY=b }:=by
 refine ⟨?_,?_⟩
 rotate_left
 ·conv=>lhs;whnf
theorem CP:FnScope ["_law_found"] ["_law_found"] tL.1:=⟨rfl,rfl,rfl,by decide +kernel,rfl,by decide +kernel,by decide +kernel⟩
def Es (K:PySem.W.Frag):Sp:=fun vs H Q _=>∃ i:Int,vs=[.int i]∧Q (.bl true) H
abbrev qu:Stmt:=top 68
noncomputable def xJ:{ s:Scope // defScope qu=s }:=by
 refine ⟨?_,?_⟩
 rotate_left
 ·conv=>lhs;whnf
noncomputable def Ie:{ b:List Stmt // defBody qu=b }:=by
 refine ⟨?_,?_⟩
 rotate_left
 ·conv=>lhs;whnf
theorem xK:FnScope ["_law_found","_law_due","_law_k"] ["_law_found","_law_due"] xJ.1:=⟨rfl,rfl,rfl,by decide +kernel,rfl,by decide +kernel,by decide +kernel⟩
def Ks (K:PySem.W.Frag):Sp:=fun vs H Q _=>∃ (a c:Addr) (xs ys:List Int),vs=[.ref a,.ref c]∧H a=some (.lst (xs.map V.int))∧bA K H c (ys.map V.int)∧ys.length≤1000000∧Q (.bl (decide (xs=ys))) H
abbrev mW:Stmt:=top 55
noncomputable def vf:{ s:Scope // defScope mW=s }:=by
 refine ⟨?_,?_⟩
 rotate_left
 ·conv=>lhs;whnf
noncomputable def Et:{ b:List Stmt // defBody mW=b }:=by
 refine ⟨?_,?_⟩
 rotate_left
 ·conv=>lhs;whnf
theorem cg:FnScope ["worths","first","behind","more","left","number","ahead","figure"] ["worths","first","behind","more","left"] vf.1:=⟨rfl,rfl,rfl,by decide +kernel,rfl,by decide +kernel,by decide +kernel⟩
def Ig (K:PySem.W.Frag):Sp:=fun vs H Q _=>∃ (a p:Addr) (ws:List Nat) (rs:List Addr) (M m j pl:Nat),vs=[.ref a,vI j,.ref p,vI m,.int (pl - cnt ws (j*ws.length ^ m) M)]∧bA K H a (ws.map vI)∧Bk ws∧H p=some (.lst (rs.map V.ref))∧rs.length=20∧(∀ k r,rs[k]? = some r→H r=some (.lst ((tab (1001 - 50*k) (wb ws M k)).map vI)))∧m<20∧j<ws.length∧(1≤j∨m=0)∧cnt ws (j*ws.length ^ m) M≤pl∧pl<cnt ws ((j+1)*ws.length ^ m) M∧∀ n,n<ws.length ^ 20→hm (fall ws) n=M→cnt ws n M=pl→Q (vI n) H
abbrev jZ:Stmt:=top 53
noncomputable def tM:{ s:Scope // defScope jZ=s }:=by
 refine ⟨?_,?_⟩
 rotate_left
 ·conv=>lhs;whnf
noncomputable def CQ:{ b:List Stmt // defBody jZ=b }:=by
 refine ⟨?_,?_⟩
 rotate_left
 ·conv=>lhs;whnf
theorem CT:FnScope ["ways","ahead","worths"] ["ways","ahead","worths"] tM.1:=⟨rfl,rfl,rfl,by decide +kernel,rfl,by decide +kernel,by decide +kernel⟩
def Eu (K:PySem.W.Frag):Sp:=fun vs H Q _=>∃ (l a:Addr) (ws:List Nat) (n x:Nat) (F:Nat→Nat),vs=[.ref l,vI x,.ref a]∧bA K H l ((tab n F).map vI)∧bA K H a (ws.map vI)∧ws.length≤16∧(∀ w∈ws,x+w<n)∧∀ H',Same H H'→Q (vI ((ws.map fun w=>F (x+w)).sum)) H'
abbrev jg:Stmt:=top 21
noncomputable def rJ:{ s:Scope // defScope jg=s }:=by
 refine ⟨?_,?_⟩
 rotate_left
 ·conv=>lhs;whnf
noncomputable def Ai:{ b:List Stmt // defBody jg=b }:=by
 refine ⟨?_,?_⟩
 rotate_left
 ·conv=>lhs;whnf
theorem fX:FnScope ["number","base","row","rest"] ["number","base"] rJ.1:=⟨rfl,rfl,rfl,by decide +kernel,rfl,by decide +kernel,by decide +kernel⟩
def CV (K:PySem.W.Frag):Sp:=fun vs H Q _=>∃ n b:Nat,vs=[vI n,vI b]∧2≤b∧b≤16∧n<b ^ 1001∧∀ p H',H p=none→H' p=some (.lst ((fl b n).reverse.map vI))→Same H H'→Q (.ref p) H'
abbrev xM:Stmt:=top 26
noncomputable def CW:{ s:Scope // defScope xM=s }:=by
 refine ⟨?_,?_⟩
 rotate_left
 ·conv=>lhs;whnf
noncomputable def MP:{ b:List Stmt // defBody xM=b }:=by
 refine ⟨?_,?_⟩
 rotate_left
 ·conv=>lhs;whnf
theorem M5:FnScope ["worths","number"] ["worths","number"] CW.1:=⟨rfl,rfl,rfl,by decide +kernel,rfl,by decide +kernel,by decide +kernel⟩
def Sg (K:PySem.W.Frag):Sp:=fun vs H Q _=>∃ (a:Addr) (ws:List Nat) (n:Nat),vs=[.ref a,vI n]∧bA K H a (ws.map vI)∧2≤ws.length∧ws.length≤16∧n<ws.length ^ 1001∧∀ H',Same H H'→Q (vI (fall ws n)) H'
abbrev jh:Stmt:=top 30
noncomputable def rK:{ s:Scope // defScope jh=s }:=by
 refine ⟨?_,?_⟩
 rotate_left
 ·conv=>lhs;whnf
noncomputable def Aj:{ b:List Stmt // defBody jh=b }:=by
 refine ⟨?_,?_⟩
 rotate_left
 ·conv=>lhs;whnf
theorem rM:FnScope ["ring","start"] ["ring"] rK.1:=⟨rfl,rfl,rfl,by decide +kernel,rfl,by decide +kernel,by decide +kernel⟩
def CZ (K:PySem.W.Frag):Sp:=fun vs H Q _=>∃ (a:Addr) (R:List Nat),vs=[.ref a]∧H a=some (.lst (R.map vI))∧R≠[]∧R.length≤400000∧∀ (s:Nat) p H',Jz R s→H p=none→H' p=some (.lst ((Xz R s).map vI))→Same H H'→Q (.ref p) H'
abbrev Ih:Stmt:=top 18
noncomputable def Ku:{ s:Scope // defScope Ih=s }:=by
 refine ⟨?_,?_⟩
 rotate_left
 ·conv=>lhs;whnf
noncomputable def WX:{ b:List Stmt // defBody Ih=b }:=by
 refine ⟨?_,?_⟩
 rotate_left
 ·conv=>lhs;whnf
theorem xO:FnScope ["number","base","limit","place"] ["number","base"] Ku.1:=⟨rfl,rfl,rfl,by decide +kernel,rfl,by decide +kernel,by decide +kernel⟩
def Ys (K:PySem.W.Frag):Sp:=fun vs H Q _=>∃ (n:Int) (b:Nat),vs=[.int n,vI b]∧2≤b∧b≤16∧Q (.bl (decide (n<(b:Int) ^ 1001))) H
abbrev ig:Stmt:=top 19
noncomputable def pF:{ s:Scope // defScope ig=s }:=by
 refine ⟨?_,?_⟩
 rotate_left
 ·conv=>lhs;whnf
noncomputable def zp:{ b:List Stmt // defBody ig=b }:=by
 refine ⟨?_,?_⟩
 rotate_left
 ·conv=>lhs;whnf
theorem zq:FnScope ["number","base"] ["number","base"] pF.1:=⟨rfl,rfl,rfl,by decide +kernel,rfl,by decide +kernel,by decide +kernel⟩
def Ak (K:PySem.W.Frag):Sp:=fun vs H Q _=>∃ n b:Nat,vs=[vI n,vI b]∧2≤b∧b≤16∧n<b ^ 1001∧Q .non H
abbrev ji:Stmt:=top 24
noncomputable def rN:{ s:Scope // defScope ji=s }:=by
 refine ⟨?_,?_⟩
 rotate_left
 ·conv=>lhs;whnf
noncomputable def Al:{ b:List Stmt // defBody ji=b }:=by
 refine ⟨?_,?_⟩
 rotate_left
 ·conv=>lhs;whnf
theorem Am:FnScope ["worth"] ["worth"] rN.1:=⟨rfl,rfl,rfl,by decide +kernel,rfl,by decide +kernel,by decide +kernel⟩
def Dc (K:PySem.W.Frag):Sp:=fun vs H Q _=>∃ w:Nat,vs=[vI w]∧w≤50∧Q .non H
abbrev j4:Stmt:=top 17
noncomputable def tO:{ s:Scope // defScope j4=s }:=by
 refine ⟨?_,?_⟩
 rotate_left
 ·conv=>lhs;whnf
noncomputable def Dd:{ b:List Stmt // defBody j4=b }:=by
 refine ⟨?_,?_⟩
 rotate_left
 ·conv=>lhs;whnf
theorem Df:FnScope ["base"] ["base"] tO.1:=⟨rfl,rfl,rfl,by decide +kernel,rfl,by decide +kernel,by decide +kernel⟩
def Ew (K:PySem.W.Frag):Sp:=fun vs H Q _=>∃ b:Nat,vs=[vI b]∧2≤b∧b≤16∧Q .non H
abbrev iu:Stmt:=top 25
noncomputable def pG:{ s:Scope // defScope iu=s }:=by
 refine ⟨?_,?_⟩
 rotate_left
 ·conv=>lhs;whnf
noncomputable def zu:{ b:List Stmt // defBody iu=b }:=by
 refine ⟨?_,?_⟩
 rotate_left
 ·conv=>lhs;whnf
theorem pH:FnScope ["worths","worth"] ["worths"] pG.1:=⟨rfl,rfl,rfl,by decide +kernel,rfl,by decide +kernel,by decide +kernel⟩
def Ao (K:PySem.W.Frag):Sp:=fun vs H Q _=>∃ (a:Addr) (ws:List Nat),vs=[.ref a]∧bA K H a (ws.map vI)∧2≤ws.length∧ws.length≤16∧(∀ x∈ws,x≤50)∧Q .non H
abbrev uO:Stmt:=top 29
noncomputable def zZ:{ s:Scope // defScope uO=s }:=by
 refine ⟨?_,?_⟩
 rotate_left
 ·conv=>lhs;whnf
noncomputable def Kv:{ b:List Stmt // defBody uO=b }:=by
 refine ⟨?_,?_⟩
 rotate_left
 ·conv=>lhs;whnf
theorem jx:FnScope ["worths","number","walk","met","now"] ["worths","number"] zZ.1:=⟨rfl,rfl,rfl,by decide +kernel,rfl,by decide +kernel,by decide +kernel⟩
def M6 (K:PySem.W.Frag):Sp:=fun vs H Q _=>∃ (a:Addr) (ws:List Nat) (n:Nat),vs=[.ref a,vI n]∧bA K H a (ws.map vI)∧2≤ws.length∧ws.length≤16∧(∀ x∈ws,x≤50)∧n<ws.length ^ 1001∧∀ (k:Nat) p H',sU (fall ws) n k→H p=none→H' p=some (.lst ((path (fall ws) n k).map vI))→Same H H'→Q (.ref p) H'
abbrev uP:Stmt:=top 31
noncomputable def z7:{ s:Scope // defScope uP=s }:=by
 refine ⟨?_,?_⟩
 rotate_left
 ·conv=>lhs;whnf
noncomputable def Kw:{ b:List Stmt // defBody uP=b }:=by
 refine ⟨?_,?_⟩
 rotate_left
 ·conv=>lhs;whnf
theorem mX:FnScope ["worths","number","walk","first","falls"] ["worths","number"] z7.1:=⟨rfl,rfl,rfl,by decide +kernel,rfl,by decide +kernel,by decide +kernel⟩
def M7 (K:PySem.W.Frag):Sp:=fun vs H Q _=>∃ (a:Addr) (ws:List Nat) (n:Nat),vs=[.ref a,vI n]∧bA K H a (ws.map vI)∧2≤ws.length∧ws.length≤16∧(∀ x∈ws,x≤50)∧n<ws.length ^ 1001∧∀ (R:List Nat) (j:Nat) p t H',lg (fall ws) n R j→H p=none→H t=none→H' p=some (.lst (R.map vI))→H' t=some (.tup [.ref p,vI j])→Same H H'→Q (.ref t) H'
abbrev qw:Stmt:=top 32
noncomputable def xP:{ s:Scope // defScope qw=s }:=by
 refine ⟨?_,?_⟩
 rotate_left
 ·conv=>lhs;whnf
noncomputable def Ii:{ b:List Stmt // defBody qw=b }:=by
 refine ⟨?_,?_⟩
 rotate_left
 ·conv=>lhs;whnf
theorem j5:FnScope ["worths","bound","number"] ["worths"] xP.1:=⟨rfl,rfl,rfl,by decide +kernel,rfl,by decide +kernel,by decide +kernel⟩
def Ky (K:PySem.W.Frag):Sp:=fun vs H Q _=>∃ (a:Addr) (ws:List Nat),vs=[.ref a]∧bA K H a (ws.map vI)∧2≤ws.length∧ws.length≤16∧(∀ x∈ws,x≤50)∧∀ (B:Nat) H',XC (fall ws) B→B≤451→Same H H'→Q (vI B) H'
abbrev qx:Stmt:=top 33
noncomputable def xQ:{ s:Scope // defScope qx=s }:=by
 refine ⟨?_,?_⟩
 rotate_left
 ·conv=>lhs;whnf
noncomputable def Ij:{ b:List Stmt // defBody qx=b }:=by
 refine ⟨?_,?_⟩
 rotate_left
 ·conv=>lhs;whnf
theorem dB:FnScope ["worths","bound","rings","met_from","start","now"] ["worths"] xQ.1:=⟨rfl,rfl,rfl,by decide +kernel,rfl,by decide +kernel,by decide +kernel⟩
def Kz (K:PySem.W.Frag):Sp:=fun vs H Q _=>∃ (a:Addr) (ws:List Nat),vs=[.ref a]∧bA K H a (ws.map vI)∧2≤ws.length∧ws.length≤16∧(∀ x∈ws,x≤50)∧∀ (l:Addr) (out:List (Addr×List Int)) H',H l=none→H' l=some (.lst (out.map fun p=>V.ref p.1))→(∀ p∈out,H p.1=none∧H' p.1=some (.lst (p.2.map V.int))∧∃ R M L,aX (fall ws) R M L∧p.2=R.map (fun d:Nat=>(d:Int)))→out.Pairwise (fun p q=>p.2.headD 0<q.2.headD 0)→out.length<128→out≠[]→(∀ R M L,aX (fall ws) R M L→∃ p∈out,p.2=R.map (fun d:Nat=>(d:Int)))→Same H H'→Q (.ref l) H'
abbrev jj:Stmt:=top 40
noncomputable def rO:{ s:Scope // defScope jj=s }:=by
 refine ⟨?_,?_⟩
 rotate_left
 ·conv=>lhs;whnf
noncomputable def Aq:{ b:List Stmt // defBody jj=b }:=by
 refine ⟨?_,?_⟩
 rotate_left
 ·conv=>lhs;whnf
theorem cC:FnScope ["worths","place_by_least","place","ring","bound","places","number"] ["worths"] rO.1:=⟨rfl,rfl,rfl,by decide +kernel,rfl,by decide +kernel,by decide +kernel⟩
def Dg (K:PySem.W.Frag):Sp:=fun vs H Q _=>∃ (a:Addr) (ws:List Nat),vs=[.ref a]∧bA K H a (ws.map vI)∧Bk ws∧∀ (p:Addr) H',H p=none→H' p=some (.lst ((tab 1001 (fun n=>ix ws (hm (fall ws) n))).map vI))→Same H H'→Q (.ref p) H'
abbrev jk:Stmt:=top 54
noncomputable def rP:{ s:Scope // defScope jk=s }:=by
 refine ⟨?_,?_⟩
 rotate_left
 ·conv=>lhs;whnf
noncomputable def Ar:{ b:List Stmt // defBody jk=b }:=by
 refine ⟨?_,?_⟩
 rotate_left
 ·conv=>lhs;whnf
theorem dJ:FnScope ["worths","ring_place","ways","behind","more"] ["worths","ring_place"] rP.1:=⟨rfl,rfl,rfl,by decide +kernel,rfl,by decide +kernel,by decide +kernel⟩
def Dh (K:PySem.W.Frag):Sp:=fun vs H Q _=>∃ (a:Addr) (ws:List Nat) (M:Nat),vs=[.ref a,vI (ix ws M)]∧bA K H a (ws.map vI)∧Bk ws∧M∈aW ws∧∀ (p:Addr) (rs:List Addr) H',H p=none→H' p=some (.lst (rs.map V.ref))→rs.length=20→(∀ k r,rs[k]? = some r→H' r=some (.lst ((tab (1001 - 50*k) (wb ws M k)).map vI)))→Same H H'→Q (.ref p) H'
abbrev fY:Stmt:=top 52
noncomputable def mY:{ s:Scope // defScope fY=s }:=by
 refine ⟨?_,?_⟩
 rotate_left
 ·conv=>lhs;whnf
noncomputable def xR:{ b:List Stmt // defBody fY=b }:=by
 refine ⟨?_,?_⟩
 rotate_left
 ·conv=>lhs;whnf
theorem mZ:FnScope ["worths","least","leasts"] ["worths","least"] mY.1:=⟨rfl,rfl,rfl,by decide +kernel,rfl,by decide +kernel,by decide +kernel⟩
def zA (K:PySem.W.Frag):Sp:=fun vs H Q _=>∃ (a:Addr) (ws:List Nat) (M:Nat),vs=[.ref a,vI M]∧bA K H a (ws.map vI)∧Bk ws∧M∈aW ws∧∀ H',Same H H'→Q (vI (ix ws M)) H'
abbrev m5:Stmt:=top 56
noncomputable def vg:{ s:Scope // defScope m5=s }:=by
 refine ⟨?_,?_⟩
 rotate_left
 ·conv=>lhs;whnf
noncomputable def Ey:{ b:List Stmt // defBody m5=b }:=by
 refine ⟨?_,?_⟩
 rotate_left
 ·conv=>lhs;whnf
theorem cI:FnScope ["worths","least","place","ring_place","behind","left","more","first","many"] ["worths","least","place"] vg.1:=⟨rfl,rfl,rfl,by decide +kernel,rfl,by decide +kernel,by decide +kernel⟩
def Ik (K:PySem.W.Frag):Sp:=fun vs H Q _=>∃ (a:Addr) (ws:List Nat) (M pl:Nat),vs=[.ref a,vI M,vI pl]∧bA K H a (ws.map vI)∧Bk ws∧M∈aW ws∧pl<cnt ws (ws.length ^ 20) M∧∀ n H',n<ws.length ^ 20→hm (fall ws) n=M→cnt ws n M=pl→Same H H'→Q (vI n) H'
abbrev fZ:Stmt:=inClass (top 62) 1
noncomputable def m6:{ s:Scope // defScope fZ=s }:=by
 refine ⟨?_,?_⟩
 rotate_left
 ·conv=>lhs;whnf
noncomputable def xT:{ b:List Stmt // defBody fZ=b }:=by
 refine ⟨?_,?_⟩
 rotate_left
 ·conv=>lhs;whnf
theorem xU:FnScope ["self","name"] ["self","name"] m6.1:=⟨rfl,rfl,rfl,by decide +kernel,rfl,by decide +kernel,by decide +kernel⟩
def zB (K:PySem.W.Frag):Sp:=fun vs H Q _=>∃ (h dx d b:Addr) (kvs:List (Key×V)) (nm:Str),vs=[.ref h,.str nm]∧H h=some (.ins (sW K "House") dx [("books",.ref d)])∧H d=some (.dK kvs)∧valV kvs (.inr nm)=some (.ref b)∧Q (.ref b) H
abbrev dY:Stmt:=inClass (top 62) 19
noncomputable def jQ:{ s:Scope // defScope dY=s }:=by
 refine ⟨?_,?_⟩
 rotate_left
 ·conv=>lhs;whnf
noncomputable def uT:{ b:List Stmt // defBody dY=b }:=by
 refine ⟨?_,?_⟩
 rotate_left
 ·conv=>lhs;whnf
theorem uU:FnScope ["self","name","least","place"] ["self","name","least","place"] jQ.1:=⟨rfl,rfl,rfl,by decide +kernel,rfl,by decide +kernel,by decide +kernel⟩
def vO (K:PySem.W.Frag):Sp:=fun vs H Q _=>∃ (h:Addr) (nm:Str) (ws:List Nat) (n:Nat),vs=[.ref h,.str nm,vI (hm (fall ws) n),vI (cnt ws n (hm (fall ws) n))]∧Kp K H h nm ws∧Bk ws∧n<400∧∀ H',Same H H'→Q (vI n) H'
abbrev qy:Stmt:=top 42
noncomputable def xV:{ s:Scope // defScope qy=s }:=by
 refine ⟨?_,?_⟩
 rotate_left
 ·conv=>lhs;whnf
noncomputable def Il:{ b:List Stmt // defBody qy=b }:=by
 refine ⟨?_,?_⟩
 rotate_left
 ·conv=>lhs;whnf
theorem xW:FnScope ["tally","ahead","worths","worth"] ["tally","ahead","worths"] xV.1:=⟨rfl,rfl,rfl,by decide +kernel,rfl,by decide +kernel,by decide +kernel⟩
def KC (K:PySem.W.Frag):Sp:=fun vs H Q _=>∃ (l a:Addr) (n ah:Nat) (F:Nat→Nat) (us:List Nat),vs=[.ref l,vI ah,.ref a]∧H l=some (.lst ((tab n F).map vI))∧bA K H a (us.map vI)∧l≠a∧(∀ x∈us,ah+x<n)∧∀ H',H' l=some (.lst ((tab n (fun s=>F s+lq us ah 1 s)).map vI))→(∀ b o,b≠l→H b=some o→H' b=some o)→Q .non H'
abbrev j6:Stmt:=top 41
noncomputable def tQ:{ s:Scope // defScope j6=s }:=by
 refine ⟨?_,?_⟩
 rotate_left
 ·conv=>lhs;whnf
noncomputable def Di:{ b:List Stmt // defBody j6=b }:=by
 refine ⟨?_,?_⟩
 rotate_left
 ·conv=>lhs;whnf
theorem eU:FnScope ["tally","worths","longer","total","many","worth"] ["tally","worths"] tQ.1:=⟨rfl,rfl,rfl,by decide +kernel,rfl,by decide +kernel,by decide +kernel⟩
def Ez (K:PySem.W.Frag):Sp:=fun vs H Q _=>∃ (t a:Addr) (tl ws:List Nat),vs=[.ref t,.ref a]∧H t=some (.lst (tl.map vI))∧bA K H a (ws.map vI)∧tl.length≤2000∧(∀ x∈ws,x≤50)∧∀ p H',H p=none→H' p=some (.lst ((tab (tl.length+50) (sh (fun i=>tl.getD i 0) ws)).map vI))→Same H H'→Q (.ref p) H'
abbrev jl:Stmt:=top 43
noncomputable def rQ:{ s:Scope // defScope jl=s }:=by
 refine ⟨?_,?_⟩
 rotate_left
 ·conv=>lhs;whnf
noncomputable def Av:{ b:List Stmt // defBody jl=b }:=by
 refine ⟨?_,?_⟩
 rotate_left
 ·conv=>lhs;whnf
theorem cD:FnScope ["worths","limit","row","tally","ahead","figure"] ["worths","limit"] rQ.1:=⟨rfl,rfl,rfl,by decide +kernel,rfl,by decide +kernel,by decide +kernel⟩
def Dj (K:PySem.W.Frag):Sp:=fun vs H Q _=>∃ (a:Addr) (ws:List Nat) (lim:Nat),vs=[.ref a,vI lim]∧bA K H a (ws.map vI)∧Bk ws∧lim≤ws.length ^ 20∧∀ (p:Addr) (L:Nat) H',H p=none→H' p=some (.lst ((tab L (cin ws 0 lim)).map vI))→L≤1051→(∀ n,n<lim→fall ws n<L)→Same H H'→Q (.ref p) H'
abbrev jm:Stmt:=top 39
noncomputable def rR:{ s:Scope // defScope jm=s }:=by
 refine ⟨?_,?_⟩
 rotate_left
 ·conv=>lhs;whnf
noncomputable def Aw:{ b:List Stmt // defBody jm=b }:=by
 refine ⟨?_,?_⟩
 rotate_left
 ·conv=>lhs;whnf
theorem Ax:FnScope ["limit","most"] ["limit","most"] rR.1:=⟨rfl,rfl,rfl,by decide +kernel,rfl,by decide +kernel,by decide +kernel⟩
def Dk (K:PySem.W.Frag):Sp:=fun vs H Q _=>∃ l m:Nat,vs=[vI l,vI m]∧l≤m∧Q .non H
abbrev dZ:Stmt:=top 38
noncomputable def jR:{ s:Scope // defScope dZ=s }:=by
 refine ⟨?_,?_⟩
 rotate_left
 ·conv=>lhs;whnf
noncomputable def uV:{ b:List Stmt // defBody dZ=b }:=by
 refine ⟨?_,?_⟩
 rotate_left
 ·conv=>lhs;whnf
theorem uW:FnScope ["base"] ["base"] jR.1:=⟨rfl,rfl,rfl,by decide +kernel,rfl,by decide +kernel,by decide +kernel⟩
def vP (K:PySem.W.Frag):Sp:=fun vs H Q _=>∃ b:Nat,vs=[vI b]∧2≤b∧b≤16∧Q (vI (b ^ 20)) H
abbrev iw:Stmt:=top 44
noncomputable def pI:{ s:Scope // defScope iw=s }:=by
 refine ⟨?_,?_⟩
 rotate_left
 ·conv=>lhs;whnf
noncomputable def zE:{ b:List Stmt // defBody iw=b }:=by
 refine ⟨?_,?_⟩
 rotate_left
 ·conv=>lhs;whnf
theorem dh:FnScope ["worths","limit","counts","places","total","many"] ["worths","limit"] pI.1:=⟨rfl,rfl,rfl,by decide +kernel,rfl,by decide +kernel,by decide +kernel⟩
def Ay (K:PySem.W.Frag):Sp:=fun vs H Q _=>∃ (a:Addr) (ws:List Nat) (lim:Nat),vs=[.ref a,vI lim]∧bA K H a (ws.map vI)∧Bk ws∧lim≤ws.length ^ 20∧∀ (p:Addr) H',H p=none→H' p=some (.lst ((aW ws).map fun M=>vI (cnt ws lim M)))→Same H H'→Q (.ref p) H'
abbrev f9:Stmt:=top 49
noncomputable def m8:{ s:Scope // defScope f9=s }:=by
 refine ⟨?_,?_⟩
 rotate_left
 ·conv=>lhs;whnf
noncomputable def xX:{ b:List Stmt // defBody f9=b }:=by
 refine ⟨?_,?_⟩
 rotate_left
 ·conv=>lhs;whnf
theorem xY:FnScope ["number","base"] ["number","base"] m8.1:=⟨rfl,rfl,rfl,by decide +kernel,rfl,by decide +kernel,by decide +kernel⟩
def zF (K:PySem.W.Frag):Sp:=fun vs H Q _=>∃ n b:Nat,vs=[vI n,vI b]∧2≤b∧b≤16∧n<b ^ 20∧Q .non H
abbrev qz:Stmt:=top 50
noncomputable def xZ:{ s:Scope // defScope qz=s }:=by
 refine ⟨?_,?_⟩
 rotate_left
 ·conv=>lhs;whnf
noncomputable def Im:{ b:List Stmt // defBody qz=b }:=by
 refine ⟨?_,?_⟩
 rotate_left
 ·conv=>lhs;whnf
theorem yc:FnScope ["worths","number","ring"] ["worths","number"] xZ.1:=⟨rfl,rfl,rfl,by decide +kernel,rfl,by decide +kernel,by decide +kernel⟩
def KD (K:PySem.W.Frag):Sp:=fun vs H Q _=>∃ (a:Addr) (ws:List Nat) (n:Nat),vs=[.ref a,vI n]∧bA K H a (ws.map vI)∧Bk ws∧n<ws.length ^ 20∧∀ H',Same H H'→Q (vI (cnt ws n (hm (fall ws) n))) H'
abbrev fC:Stmt:=inClass (top 62) 18
noncomputable def lC:{ s:Scope // defScope fC=s }:=by
 refine ⟨?_,?_⟩
 rotate_left
 ·conv=>lhs;whnf
noncomputable def vQ:{ b:List Stmt // defBody fC=b }:=by
 refine ⟨?_,?_⟩
 rotate_left
 ·conv=>lhs;whnf
theorem vR:FnScope ["self","name","number"] ["self","name","number"] lC.1:=⟨rfl,rfl,rfl,by decide +kernel,rfl,by decide +kernel,by decide +kernel⟩
def yd (K:PySem.W.Frag):Sp:=fun vs H Q _=>∃ (h:Addr) (nm:Str) (ws:List Nat) (n:Nat),vs=[.ref h,.str nm,vI n]∧Kp K H h nm ws∧Bk ws∧n<400∧∀ H',Same H H'→Q (vI (cnt ws n (hm (fall ws) n))) H'
abbrev cZ:Stmt:=top 46
noncomputable def iQ:{ s:Scope // defScope cZ=s }:=by
 refine ⟨?_,?_⟩
 rotate_left
 ·conv=>lhs;whnf
noncomputable def su:{ b:List Stmt // defBody cZ=b }:=by
 refine ⟨?_,?_⟩
 rotate_left
 ·conv=>lhs;whnf
theorem cP:FnScope ["worths","limit","count_by_least","ring","number"] ["worths","limit"] iQ.1:=⟨rfl,rfl,rfl,by decide +kernel,rfl,by decide +kernel,by decide +kernel⟩
def tU (K:PySem.W.Frag):Sp:=fun vs H Q _=>∃ (a:Addr) (ws:List Nat) (lim:Nat),vs=[.ref a,vI lim]∧bA K H a (ws.map vI)∧Bk ws∧lim≤3000∧∀ (p:Addr) H',H p=none→H' p=some (.lst ((aW ws).map fun M=>vI (cnt ws lim M)))→Same H H'→Q (.ref p) H'
abbrev bV:Stmt:=inClass (top 62) 15
noncomputable def eE:{ s:Scope // defScope bV=s }:=by
 refine ⟨?_,?_⟩
 rotate_left
 ·conv=>lhs;whnf
noncomputable def j7:{ b:List Stmt // defBody bV=b }:=by
 refine ⟨?_,?_⟩
 rotate_left
 ·conv=>lhs;whnf
theorem j8:FnScope ["self","name","limit"] ["self","name","limit"] eE.1:=⟨rfl,rfl,rfl,by decide +kernel,rfl,by decide +kernel,by decide +kernel⟩
def lD (K:PySem.W.Frag):Sp:=fun vs H Q _=>∃ (h:Addr) (nm:Str) (ws:List Nat) (lim:Nat),vs=[.ref h,.str nm,vI lim]∧Kp K H h nm ws∧Bk ws∧lim≤400∧∀ (p:Addr) H',H p=none→H' p=some (.lst ((aW ws).map fun M=>vI (cnt ws lim M)))→Same H H'→Q (.ref p) H'
abbrev cY:Stmt:=inClass (top 62) 14
noncomputable def iy:{ s:Scope // defScope cY=s }:=by
 refine ⟨?_,?_⟩
 rotate_left
 ·conv=>lhs;whnf
noncomputable def qC:{ b:List Stmt // defBody cY=b }:=by
 refine ⟨?_,?_⟩
 rotate_left
 ·conv=>lhs;whnf
theorem qF:FnScope ["self","name","limit"] ["self","name","limit"] iy.1:=⟨rfl,rfl,rfl,by decide +kernel,rfl,by decide +kernel,by decide +kernel⟩
def sE (K:PySem.W.Frag):Sp:=fun vs H Q _=>∃ (h:Addr) (nm:Str) (ws:List Nat) (lim:Nat),vs=[.ref h,.str nm,vI lim]∧Kp K H h nm ws∧Bk ws∧lim≤400∧∀ (p:Addr) H',H p=none→H' p=some (.lst ((aW ws).map fun M=>vI (cnt ws lim M)))→Same H H'→Q (.ref p) H'
abbrev m9:Stmt:=top 69
noncomputable def vh:{ s:Scope // defScope m9=s }:=by
 refine ⟨?_,?_⟩
 rotate_left
 ·conv=>lhs;whnf
noncomputable def EY:{ b:List Stmt // defBody m9=b }:=by
 refine ⟨?_,?_⟩
 rotate_left
 ·conv=>lhs;whnf
theorem fV:FnScope ["_law_row_here","_law_number","_law_total","_law_rest"] ["_law_row_here","_law_number"] vh.1:=⟨rfl,rfl,rfl,by decide +kernel,rfl,by decide +kernel,by decide +kernel⟩
def Io (K:PySem.W.Frag):Sp:=fun vs H Q _=>∃ (a:Addr) (ws:List Nat) (n:Nat),vs=[.ref a,vI n]∧bA K H a (ws.map vI)∧2≤ws.length∧ws.length≤16∧Q (vI (fall ws n)) H
abbrev j9:Stmt:=top 70
noncomputable def tV:{ s:Scope // defScope j9=s }:=by
 refine ⟨?_,?_⟩
 rotate_left
 ·conv=>lhs;whnf
noncomputable def Dl:{ b:List Stmt // defBody j9=b }:=by
 refine ⟨?_,?_⟩
 rotate_left
 ·conv=>lhs;whnf
theorem bH:FnScope ["_law_row_here","_law_top","_law_homes_here","_law_first","_law_path","_law_stood","_law_here","_law_low","_law_one"] ["_law_row_here","_law_top"] tV.1:=⟨rfl,rfl,rfl,by decide +kernel,rfl,by decide +kernel,by decide +kernel⟩
def Fb (K:PySem.W.Frag):Sp:=fun vs H Q _=>∃ (a:Addr) (ws:List Nat) (tp:Nat),vs=[.ref a,vI tp]∧bA K H a (ws.map vI)∧Bk ws∧tp≤5000∧∀ (d:Addr) (ps:List (Nat×V)) H',H d=none→H' d=some (.dK (jz ps))→Qi ws tp tp ps→Same H H'→Q (.ref d) H'
abbrev iz:Stmt:=top 72
noncomputable def pJ:{ s:Scope // defScope iz=s }:=by
 refine ⟨?_,?_⟩
 rotate_left
 ·conv=>lhs;whnf
noncomputable def zG:{ b:List Stmt // defBody iz=b }:=by
 refine ⟨?_,?_⟩
 rotate_left
 ·conv=>lhs;whnf
theorem bC:FnScope ["_law_house","_law_name","_law_row_here","_law_limit","_law_numbers","_law_homes_here","_law_firsts","_law_due","_law_places","_law_many","_law_one","_law_found"] ["_law_house","_law_name","_law_row_here","_law_limit","_law_numbers"] pJ.1:=⟨rfl,rfl,rfl,by decide +kernel,rfl,by decide +kernel,by decide +kernel⟩
def Az (K:PySem.W.Frag):Sp:=fun vs H Q _=>∃ (h rw nl:Addr) (nm:Str) (ws ns:List Nat) (lim:Nat),vs=[.ref h,.str nm,.ref rw,vI lim,.ref nl]∧Kp K H h nm ws∧H rw=some (.lst (ws.map vI))∧H nl=some (.lst (ns.map vI))∧Bk ws∧lim≤400∧(∀ n∈ns,n<400)∧∀ H',Same H H'→Q (.bl true) H'
abbrev gj:Stmt:=inClass (top 61) 0
noncomputable def ni:{ s:Scope // defScope gj=s }:=by
 refine ⟨?_,?_⟩
 rotate_left
 ·conv=>lhs;whnf
noncomputable def yg:{ b:List Stmt // defBody gj=b }:=by
 refine ⟨?_,?_⟩
 rotate_left
 ·conv=>lhs;whnf
theorem yh:FnScope ["self","worths"] ["self","worths"] ni.1:=⟨rfl,rfl,rfl,by decide +kernel,rfl,by decide +kernel,by decide +kernel⟩
def zH (K:PySem.W.Frag):Sp:=fun vs H Q _=>∃ (x dx a:Addr) (ws:List Nat),vs=[.ref x,.ref a]∧H x=some (.ins (sW K "Book") dx [])∧bA K H a (ws.map vI)∧ws.length≤16∧∀ (wl tl:Addr) H',H wl=none→H tl=none→wl≠tl→H' x=some (.ins (sW K "Book") dx [("worths",.ref wl),("told",.ref tl)])→H' wl=some (.lst (ws.map vI))→H' tl=some (.lst [])→(∀ b o,b≠x→H b=some o→H' b=some o)→Q .non H'
abbrev kh:Stmt:=inClass (top 62) 2
noncomputable def tW:{ s:Scope // defScope kh=s }:=by
 refine ⟨?_,?_⟩
 rotate_left
 ·conv=>lhs;whnf
noncomputable def Dm:{ b:List Stmt // defBody kh=b }:=by
 refine ⟨?_,?_⟩
 rotate_left
 ·conv=>lhs;whnf
theorem Dn:FnScope ["self","name","worths"] ["self","name","worths"] tW.1:=⟨rfl,rfl,rfl,by decide +kernel,rfl,by decide +kernel,by decide +kernel⟩
def Fd (K:PySem.W.Frag):Sp:=fun vs H Q _=>∃ (h dx d a:Addr) (kvs:List (Key×V)) (nm:Str) (ws:List Nat),vs=[.ref h,.str nm,.ref a]∧H h=some (.ins (sW K "House") dx [("books",.ref d)])∧H d=some (.dK kvs)∧valV kvs (.inr nm)=none∧kvs.length<20∧bA K H a (ws.map vI)∧Bk ws∧∀ (b bx wl tl:Addr) H',H b=none→H wl=none→H tl=none→wl≠tl→H' d=some (.dK (kvs++[(.inr nm,.ref b)]))→H' b=some (.ins (sW K "Book") bx [("worths",.ref wl),("told",.ref tl)])→H' wl=some (.lst (ws.map vI))→H' tl=some (.lst [])→(∀ c o,c≠d→H c=some o→H' c=some o)→Q .non H'
abbrev uQ:Stmt:=top 65
noncomputable def z8:{ s:Scope // defScope uQ=s }:=by
 refine ⟨?_,?_⟩
 rotate_left
 ·conv=>lhs;whnf
noncomputable def KH:{ b:List Stmt // defBody uQ=b }:=by
 refine ⟨?_,?_⟩
 rotate_left
 ·conv=>lhs;whnf
theorem KJ:FnScope ["_law_script","_law_k"] ["_law_script","_law_k"] z8.1:=⟨rfl,rfl,rfl,by decide +kernel,rfl,by decide +kernel,by decide +kernel⟩
def M8 (K:PySem.W.Frag):Sp:=fun vs H Q _=>∃ (a:Addr) (ns:List Int) (k:Nat),vs=[.ref a,vI k]∧bA K H a (ns.map V.int)∧Q (.int (cell ns k)) H
abbrev kj:Stmt:=top 66
noncomputable def tX:{ s:Scope // defScope kj=s }:=by
 refine ⟨?_,?_⟩
 rotate_left
 ·conv=>lhs;whnf
noncomputable def Dq:{ b:List Stmt // defBody kj=b }:=by
 refine ⟨?_,?_⟩
 rotate_left
 ·conv=>lhs;whnf
theorem tY:FnScope ["_law_cell","_law_place","_law_first"] ["_law_cell","_law_place"] tX.1:=⟨rfl,rfl,rfl,by decide +kernel,rfl,by decide +kernel,by decide +kernel⟩
def Fe (K:PySem.W.Frag):Sp:=fun vs H Q _=>∃ c p:Int,vs=[.int c,.int p]∧Q (.int (mixed c p)) H
abbrev jo:Stmt:=inClass (top 62) 4
noncomputable def rT:{ s:Scope // defScope jo=s }:=by
 refine ⟨?_,?_⟩
 rotate_left
 ·conv=>lhs;whnf
noncomputable def Ba:{ b:List Stmt // defBody jo=b }:=by
 refine ⟨?_,?_⟩
 rotate_left
 ·conv=>lhs;whnf
theorem Bb:FnScope ["self"] ["self"] rT.1:=⟨rfl,rfl,rfl,by decide +kernel,rfl,by decide +kernel,by decide +kernel⟩
def Dr (K:PySem.W.Frag):Sp:=fun vs H Q _=>∃ (h dx d:Addr) (kvs:List (Key×V)),vs=[.ref h]∧H h=some (.ins (sW K "House") dx [("books",.ref d)])∧H d=some (.dK kvs)∧kvs.length≤20∧∀ (p:Addr) H',H p=none→H' p=some (.lst (kvs.map fun kv=>kV kv.1))→Same H H'→Q (.ref p) H'
abbrev gk:Stmt:=top 20
noncomputable def nj:{ s:Scope // defScope gk=s }:=by
 refine ⟨?_,?_⟩
 rotate_left
 ·conv=>lhs;whnf
noncomputable def yj:{ b:List Stmt // defBody gk=b }:=by
 refine ⟨?_,?_⟩
 rotate_left
 ·conv=>lhs;whnf
theorem nq:FnScope ["row","base","figure"] ["row","base"] nj.1:=⟨rfl,rfl,rfl,by decide +kernel,rfl,by decide +kernel,by decide +kernel⟩
def zJ (K:PySem.W.Frag):Sp:=fun vs H Q _=>∃ (a:Addr) (rs:List Nat) (b:Nat),vs=[.ref a,vI b]∧bA K H a (rs.map vI)∧(∀ d∈rs,d<b)∧Q .non H
abbrev kI:Stmt:=inClass (top 62) 6
noncomputable def tZ:{ s:Scope // defScope kI=s }:=by
 refine ⟨?_,?_⟩
 rotate_left
 ·conv=>lhs;whnf
noncomputable def Ds:{ b:List Stmt // defBody kI=b }:=by
 refine ⟨?_,?_⟩
 rotate_left
 ·conv=>lhs;whnf
theorem lE:FnScope ["self","name","figure","worth","book","ahead"] ["self","name","figure","worth"] tZ.1:=⟨rfl,rfl,rfl,by decide +kernel,rfl,by decide +kernel,by decide +kernel⟩
def Fg (K:PySem.W.Frag):Sp:=fun vs H Q _=>∃ (h dx d b bx wl tl:Addr) (kvs:List (Key×V)) (nm:Str) (ws:List Nat) (ts:List Addr) (f w:Nat),vs=[.ref h,.str nm,vI f,vI w]∧H h=some (.ins (sW K "House") dx [("books",.ref d)])∧H d=some (.dK kvs)∧valV kvs (.inr nm)=some (.ref b)∧H b=some (.ins (sW K "Book") bx [("worths",.ref wl),("told",.ref tl)])∧H wl=some (.lst (ws.map vI))∧H tl=some (.lst (ts.map V.ref))∧wl≠tl∧f<ws.length∧ws.length≤16∧w≤50∧ts.length≤200∧∀ (r:Addr) H',H r=none→H' r=some (.tup [vI f,vI (wt ws f),vI w])→H' wl=some (.lst ((ws.set f w).map vI))→H' tl=some (.lst (((ts++[r]).drop (ts.length - 199)).map V.ref))→(∀ b o,b≠wl→b≠tl→H b=some o→H' b=some o)→Q (vI (wt ws f)) H'
abbrev eF:Stmt:=inClass (top 62) 7
noncomputable def jT:{ s:Scope // defScope eF=s }:=by
 refine ⟨?_,?_⟩
 rotate_left
 ·conv=>lhs;whnf
noncomputable def uX:{ b:List Stmt // defBody eF=b }:=by
 refine ⟨?_,?_⟩
 rotate_left
 ·conv=>lhs;whnf
theorem fJ:FnScope ["self","name","book","telling"] ["self","name"] jT.1:=⟨rfl,rfl,rfl,by decide +kernel,rfl,by decide +kernel,by decide +kernel⟩
def vU (K:PySem.W.Frag):Sp:=fun vs H Q _=>∃ (h dx d b bx wl tl:Addr) (kvs:List (Key×V)) (nm:Str) (ws:List Nat) (ts:List Addr) (r:Addr) (f x w:Nat),vs=[.ref h,.str nm]∧H h=some (.ins (sW K "House") dx [("books",.ref d)])∧H d=some (.dK kvs)∧valV kvs (.inr nm)=some (.ref b)∧H b=some (.ins (sW K "Book") bx [("worths",.ref wl),("told",.ref tl)])∧H wl=some (.lst (ws.map vI))∧H tl=some (.lst ((ts++[r]).map V.ref))∧wl≠tl∧H r=some (.tup [vI f,vI x,vI w])∧f<ws.length∧∀ (p:Addr) H',H p=none→H' p=some (.tup [vI f,vI x])→H' wl=some (.lst ((ws.set f x).map vI))→H' tl=some (.lst (ts.map V.ref))→(∀ b o,b≠wl→b≠tl→H b=some o→H' b=some o)→Q (.ref p) H'
abbrev kJ:Stmt:=inClass (top 62) 3
noncomputable def uc:{ s:Scope // defScope kJ=s }:=by
 refine ⟨?_,?_⟩
 rotate_left
 ·conv=>lhs;whnf
noncomputable def Dt:{ b:List Stmt // defBody kJ=b }:=by
 refine ⟨?_,?_⟩
 rotate_left
 ·conv=>lhs;whnf
theorem Du:FnScope ["self","name"] ["self","name"] uc.1:=⟨rfl,rfl,rfl,by decide +kernel,rfl,by decide +kernel,by decide +kernel⟩
def Fi (K:PySem.W.Frag):Sp:=fun vs H Q _=>∃ (h dx d b:Addr) (kvs:List (Key×V)) (nm:Str),vs=[.ref h,.str nm]∧H h=some (.ins (sW K "House") dx [("books",.ref d)])∧H d=some (.dK kvs)∧valV kvs (.inr nm)=some (.ref b)∧∀ H',H' d=some (.dK (dropK kvs (.inr nm)))→(∀ c o,c≠d→H c=some o→H' c=some o)→Q .non H'
abbrev jq:Stmt:=top 71
noncomputable def rU:{ s:Scope // defScope jq=s }:=by
 refine ⟨?_,?_⟩
 rotate_left
 ·conv=>lhs;whnf
noncomputable def Bc:{ b:List Stmt // defBody jq=b }:=by
 refine ⟨?_,?_⟩
 rotate_left
 ·conv=>lhs;whnf
theorem bO:FnScope ["_law_house","_law_cells","_law_kept","_law_rows","_law_told","_law_at_here","_law_cell","_law_name","_law_deed","_law_more","_law_figure","_law_last"] ["_law_house","_law_cells","_law_kept","_law_rows","_law_told"] rU.1:=⟨rfl,rfl,rfl,by decide +kernel,rfl,by decide +kernel,by decide +kernel⟩
def Dv (K:PySem.W.Frag):Sp:=fun vs H Q _=>∃ (bB:Addr→Nat) (h dx d Nn Rd Td cl:Addr) (B:Nat→BX) (ks rs:List Nat) (cs:List Int),vs=[.ref h,.ref cl,.ref Nn,.ref Rd,.ref Td]∧HP K bB H 0 h dx d Nn Rd Td B ks rs∧H cl=some (.lst (cs.map V.int))∧bB cl=0∧cs.length≤24∧∀ (rZ:Addr→Nat) (t:Nat) (B':Nat→BX) (ks' rs':List Nat) (H':Hp),HP K rZ H' t h dx d Nn Rd Td B' ks' rs'→(∀ c o,bB c=0→H c=some o→H' c=some o)→Q (.bl true) H'
abbrev nu:Stmt:=top 67
noncomputable def vm:{ s:Scope // defScope nu=s }:=by
 refine ⟨?_,?_⟩
 rotate_left
 ·conv=>lhs;whnf
noncomputable def Fj:{ b:List Stmt // defBody nu=b }:=by
 refine ⟨?_,?_⟩
 rotate_left
 ·conv=>lhs;whnf
theorem cJ:FnScope ["_law_script","_law_k","_law_base","_law_way","_law_cell","_law_most","_law_row_here","_law_figure"] ["_law_script","_law_k"] vm.1:=⟨rfl,rfl,rfl,by decide +kernel,rfl,by decide +kernel,by decide +kernel⟩
def Ip (K:PySem.W.Frag):Sp:=fun vs H Q _=>∃ (a:Addr) (ns:List Int) (k:Nat),vs=[.ref a,vI k]∧bA K H a (ns.map V.int)∧∀ (ws:List Nat) p H',2≤ws.length→ws.length≤16→(∀ x∈ws,x≤50)→H p=none→H' p=some (.lst (ws.map vI))→Same H H'→Q (.ref p) H'
abbrev fD:Stmt:=inClass (top 62) 0
noncomputable def lF:{ s:Scope // defScope fD=s }:=by
 refine ⟨?_,?_⟩
 rotate_left
 ·conv=>lhs;whnf
noncomputable def vV:{ b:List Stmt // defBody fD=b }:=by
 refine ⟨?_,?_⟩
 rotate_left
 ·conv=>lhs;whnf
theorem vW:FnScope ["self"] ["self"] lF.1:=⟨rfl,rfl,rfl,by decide +kernel,rfl,by decide +kernel,by decide +kernel⟩
def yp (K:PySem.W.Frag):Sp:=fun vs H Q _=>∃ (x dx:Addr),vs=[.ref x]∧H x=some (.ins (sW K "House") dx [])∧∀ (d:Addr) H',H d=none→H' x=some (.ins (sW K "House") dx [("books",.ref d)])→H' d=some (.dK [])→(∀ b o,b≠x→H b=some o→H' b=some o)→Q .non H'
abbrev Dw:Stmt:=top 73
noncomputable def Rc:{ s:Scope // defScope Dw=s }:=by
 refine ⟨?_,?_⟩
 rotate_left
 ·conv=>lhs;whnf
noncomputable def Yt:{ b:List Stmt // defBody Dw=b }:=by
 refine ⟨?_,?_⟩
 rotate_left
 ·conv=>lhs;whnf
theorem jr:FnScope ["_law_script","_law_house","_law_kept","_law_rows","_law_told","_law_names","_law_k","_law_name","_law_limit","_law_numbers"] ["_law_script"] Rc.1:=⟨rfl,rfl,rfl,by decide +kernel,rfl,by decide +kernel,by decide +kernel⟩
def M9 (K:PySem.W.Frag):Sp:=fun vs H Q _=>∃ (a:Addr) (ns:List Int),vs=[.ref a]∧SqL K H a (ns.map V.int)∧ns.length≤63∧∀ H',Q (.bl true) H'
section
variable (P:Program) (w:World) (K:PySem.W.Frag) (mg:Str→Option Value) (base:Heap)
abbrev vo:=Good P w K mg base CX0 1 "_law_whole" ["_law_found"] (Es K)
abbrev z9:=Good P w K mg base CX0 2 "_law_row" ["_law_found","_law_due"] (Ks K)
abbrev yq:=Good P w K mg base CX0 1 "filled_up" ["worths","first","behind","more","left"] (Ig K)
abbrev vp:=Good P w K mg base CX0 1 "sum_behind" ["ways","ahead","worths"] (Eu K)
abbrev lG:=Good P w K mg base CX0 1 "taken_apart" ["number","base"] (CV K)
abbrev kW:=Good P w K mg base CX0 2 "fallen" ["worths","number"] (Sg K)
abbrev ud:=Good P w K mg base CX0 1 "least_first" ["ring"] (CZ K)
abbrev Rf:=Good P w K mg base CX0 1 "fits" ["number","base"] (Ys K)
abbrev rW:=Good P w K mg base CX0 2 "check_number" ["number","base"] (Ak K)
abbrev lH:=Good P w K mg base CX0 1 "check_worth" ["worth"] (Dc K)
abbrev vq:=Good P w K mg base CX0 1 "check_base" ["base"] (Ew K)
abbrev bQ:=Good P w K mg base CX0 2 "check_worths" ["worths"] (Ao K)
abbrev Dy:=Good P w K mg base CX0 3 "walk_of" ["worths","number"] (M6 K)
abbrev lJ:=Good P w K mg base CX0 4 "ring_of" ["worths","number"] (M7 K)
abbrev uf:=Good P w K mg base CX0 3 "bound_of" ["worths"] (Ky K)
abbrev gM:=Good P w K mg base CX0 5 "rings_of" ["worths"] (Kz K)
abbrev lK:=Good P w K mg base CX0 6 "ring_places" ["worths"] (Dg K)
abbrev ug:=Good P w K mg base CX0 7 "ways_behind" ["worths","ring_place"] (Dh K)
abbrev pK:=Good P w K mg base CX0 6 "place_of_ring" ["worths","least"] (zA K)
abbrev yr:=Good P w K mg base CX0 8 "number_at" ["worths","least","place"] (Ik K)
abbrev bL:=pA P w K mg base CX0 1 "House" "book_of" ["self","name"] (zB K)
abbrev lM:=pA P w K mg base CX0 9 "House" "number_at" ["self","name","least","place"] (vO K)
abbrev Aa:=Good P w K mg base CX0 1 "add_each" ["tally","ahead","worths"] (KC K)
abbrev vA:=Good P w K mg base CX0 1 "lengthened" ["tally","worths"] (Ez K)
abbrev uh:=Good P w K mg base CX0 2 "tally_below" ["worths","limit"] (Dj K)
abbrev lO:=Good P w K mg base CX0 1 "check_limit" ["limit","most"] (Dk K)
abbrev gB:=Good P w K mg base CX0 1 "first_uncounted" ["base"] (vP K)
abbrev jB:=Good P w K mg base CX0 7 "counts_below" ["worths","limit"] (Ay K)
abbrev pL:=Good P w K mg base CX0 2 "check_counted" ["number","base"] (zF K)
abbrev Ab:=Good P w K mg base CX0 8 "place_of" ["worths","number"] (KD K)
abbrev nA:=pA P w K mg base CX0 9 "House" "place_of" ["self","name","number"] (yd K)
abbrev jy:=Good P w K mg base CX0 6 "counts_one_by_one" ["worths","limit"] (tU K)
abbrev eV:=pA P w K mg base CX0 7 "House" "counts_one_by_one" ["self","name","limit"] (lD K)
abbrev iR:=pA P w K mg base CX0 8 "House" "counts_below" ["self","name","limit"] (sE K)
abbrev yt:=Good P w K mg base CX0 1 "_law_fall" ["_law_row_here","_law_number"] (Io K)
abbrev vB:=Good P w K mg base CX0 2 "_law_homes" ["_law_row_here","_law_top"] (Fb K)
abbrev rY:=Good P w K mg base CX0 10 "_law_counted" ["_law_house","_law_name","_law_row_here","_law_limit","_law_numbers"] (Az K)
abbrev pN:=JD P w K mg base CX0 1 "Book" ["self","worths"] (zH K)
abbrev nO:=pA P w K mg base CX0 3 "House" "keep" ["self","name","worths"] (Fd K)
abbrev vX:=Good P w K mg base CX0 1 "_law_at" ["_law_script","_law_k"] (M8 K)
abbrev jt:=Good P w K mg base CX0 1 "_law_mixed" ["_law_cell","_law_place"] (Fe K)
abbrev um:=pA P w K mg base CX0 1 "House" "names" ["self"] (Dr K)
abbrev pO:=Good P w K mg base CX0 1 "check_figures" ["row","base"] (zJ K)
abbrev vC:=pA P w K mg base CX0 2 "House" "tell" ["self","name","figure","worth"] (Fg K)
abbrev lQ:=pA P w K mg base CX0 2 "House" "take_back" ["self","name"] (vU K)
abbrev vD:=pA P w K mg base CX0 2 "House" "drop" ["self","name"] (Fi K)
abbrev uo:=Good P w K mg base CX0 4 "_law_played" ["_law_house","_law_cells","_law_kept","_law_rows","_law_told"] (Dv K)
abbrev yu:=Good P w K mg base CX0 2 "_law_book" ["_law_script","_law_k"] (Ip K)
abbrev nD:=JD P w K mg base CX0 1 "House" ["self"] (yp K)
end
section
variable {P:Program} {w:World} {K:PySem.W.Frag} {mg:Str→Option Value} {base:Heap}
theorem Fl (T:Txt mg) (F:aM K mg "_law_whole" jY ["_law_found"]) :vo P w K mg base:=by
 refine F.aZ tL.2 CN.2 CP (fun vs H Q E h=>?_) (fun f cdv A outer s H vs Q E hr h=>?_) <;> obtain ⟨i,rfl,k⟩:=h
 ·rfl
 ·have hu:=hu_of hr
  refine ⟨_,(aq (aU (U9 (aL oY (by rfl) T.gY fQ (aj (qv 0) (aj (Jx T.Zr T3) ak))) (U8 (aas (aL oY (by rfl) T.gY fQ (aj (qv 0) (aj (Jx T.aaO Xu) ak)))))))),?_⟩
  walk_at "wp"
  exact k
theorem KN (T:Txt mg) (F:aM K mg "_law_row" qu ["_law_found","_law_due"]) (qG:vo P w K mg base):z9 P w K mg base:=by
 refine F.aZ xJ.2 Ie.2 xK (fun vs H Q E h=>?_) (fun f cdv A outer s H vs Q E hr h=>?_) <;> obtain ⟨a,c,xs,ys,rfl,h1,h2,h3,k⟩:=h
 ·rfl
 ·have hu:=hu_of hr
  refine ⟨_,(ao (bM (wJ (p8 (qb (aL oY (by rfl) T.gY fQ (aj (qv 0) (aj (Jx T.vM pR) ak))))) (qd (aN op_ne (aL aH (by rfl) T.cQ PySem.boot_len (aj (qv 0) ak)) (aL aH (by rfl) T.cQ PySem.boot_len (aj (qv 1) ak)) (nomark _)))).qt (aq (aU mK)) bF)
   (ao (cB PassesOwn.never rfl (bZ rfl T.cO (aj (aL aH (by rfl) T.cQ PySem.boot_len (aj (qv 1) ak)) ak)) (aR (i:=2) xK.nd rfl (Or.inl rfl)) (aq (bM (wJ (p8 (qb (aA qG (hr.mono (by decide)) pass0 (aj (aY bh (qv 0) (qv 2) (fun _ _=>rfl)) ak)))) (qd (aN op_ne (aY bh (qv 0) (qv 2) (fun _ _=>rfl)) (aY bh (qv 1) (qv 2) (fun _ _=>rfl)) (nomark _)))).qt (aq (aU mK)) bF)))
   (aq (aU mK)))),?_⟩
  walk_at "wp"
  refine ⟨true,Oi h1,?_⟩
  walk_at "wp"
  refine ⟨_,bA.of h1,_,h2,ite2 (fun e=>⟨_,h2,?_⟩) (fun e=>?_)⟩
  ·rw [List.length_map,List.length_map] at e
   rw [List.length_map]
   refine ⟨by omega,by omega,nH.go (fun i σ H2=>∃ v,σ=[some (.ref a),some (.ref c),v]∧H2=H∧∀ j,j<i→xs[j]? = ys[j]?) ⟨none,rfl,rfl,by intro j h;omega⟩ ?_ ?_⟩
   ·rintro i σ H2 N hi ⟨v,rfl,rfl,hj⟩ hN
    have hx:xs[i]? = some (xs[i]'(by omega)):=List.getElem?_eq_getElem (by omega)
    have hy:ys[i]? = some (ys[i]'(by omega)):=List.getElem?_eq_getElem (by omega)
    have hx':atI (xs.map V.int) (i:Int)=some (.int (xs[i]'(by omega))):=atI_nat (by rw [List.getElem?_map,hx];rfl)
    have hy':atI (ys.map V.int) (i:Int)=some (.int (ys[i]'(by omega))):=atI_nat (by rw [List.getElem?_map,hy];rfl)
    walk_at "wp"
    refine ⟨_,bA.of h1,_,hx',_,rfl,?_⟩
    walk_at "wp"
    refine ⟨_,bA.of h1,_,hx',_,h2,_,hy',?_⟩
    walk_at "wp"
    refine ite2 (fun e2=>hN _ _ ⟨some (.int i),rfl,rfl,fun j hj2=>?_⟩) (fun e2=>?_)
    ·by_cases e3:j<i
     ·exact hj j e3
     ·have e4:j=i:=by omega
      rw [e4,hx,hy,e2]
    ·rw [decide_eq_false (fun e3=>e2 (by subst e3;rfl))] at k
     exact k
   ·rintro σ H2 ⟨v,rfl,rfl,hj⟩
    walk_at "wp"
    have e2:xs=ys:=by
     refine List.ext_getElem? fun i=>?_
     by_cases h:i<ys.length
     ·exact hj i h
     ·rw [List.getElem?_eq_none (by omega),List.getElem?_eq_none (by omega)]
    rw [decide_eq_true e2] at k
    exact k
  ·rw [List.length_map,List.length_map] at e
   rw [decide_eq_false (fun e2=>e (by rw [e2]))] at k
   exact k
theorem Ir (T:Txt mg) (F:aM K mg "filled_up" mW ["worths","first","behind","more","left"]) :yq P w K mg base:=by
 refine F.aZ vf.2 Et.2 cg (fun vs H Q E h=>?_) (fun f cdv A outer s H vs Q E hr h=>?_) <;> obtain ⟨a,p,ws,rs,M,m,j,pl,rfl,hS,hb,hp,hrl,hrs,adz,hj,hj1,hlo,hhi,k⟩:=h
 ·rfl
 ·have hu:=hu_of hr
  refine ⟨_,(ao (aB (i:=5) cg.nd rfl (Or.inl rfl) (qv 1))
   (ao (aB (i:=6) cg.nd rfl (Or.inl rfl) (aY bh (qv 0) (qv 1) (fun _ _=>rfl)))
   (ao (kZ PassesOwn.never (aN uY (qv 3) au (nomark _)) (ao (yR (i:=3) cg.nd rfl (Or.inl rfl) au K6)
   (ao (aB (i:=7) cg.nd rfl (Or.inl rfl) au)
   (ao (kZ PassesOwn.never (aN op_ge (qv 4) (aY bh (aY bh (qv 2) (qv 3) (fun _ _=>rfl)) (aO op_add (qv 6) (aY bh (qv 0) (qv 7) (fun _ _=>rfl))) (fun _ _=>rfl)) (nomark _)) (ao (yR (i:=4) cg.nd rfl (Or.inl rfl) (aY bh (aY bh (qv 2) (qv 3) (fun _ _=>rfl)) (aO op_add (qv 6) (aY bh (qv 0) (qv 7) (fun _ _=>rfl))) (fun _ _=>rfl)) K6)
   (aq (yR (i:=7) cg.nd rfl (Or.inl rfl) au sJ))))
   (ao (aB (i:=5) cg.nd rfl (Or.inl rfl) (aO op_add (aO sO (qv 5) (aL aH (by rfl) T.cQ PySem.boot_len (aj (qv 0) ak))) (qv 7)))
   (aq (yR (i:=6) cg.nd rfl (Or.inl rfl) (aY bh (qv 0) (qv 7) (fun _ _=>rfl)) sJ)))))))
   (aq (aU (qv 5)))))),?_⟩
  have hb2:=hb.two
  have ab8:=hb.top
  walk_at "wp"
  refine ⟨_,hS,_,mO hj,?_⟩
  refine pX (fun m σ H2=>H2=H∧∃ (n:Nat) (v:Option V),σ=[some (.ref a),some (vI j),some (.ref p),some (vI m),some (.int (pl - cnt ws (n*ws.length ^ m) M)),some (vI n),some (vI (fall ws n)),v]∧m<20∧(1≤n∨m=0)∧cnt ws (n*ws.length ^ m) M≤pl∧pl<cnt ws ((n+1)*ws.length ^ m) M∧(n+1)*ws.length ^ m≤ws.length ^ 20) m ⟨rfl,j,none,by rw [mQ hj],adz,hj1,hlo,hhi,?_⟩ ?_
  ·have h1:(j+1)*ws.length ^ m≤ws.length*ws.length ^ m:=Nat.mul_le_mul_right _ hj
   rw [Nat.mul_comm ws.length,←Nat.pow_succ] at h1
   exact Nat.le_trans h1 (Nat.pow_le_pow_right (by omega) (by omega))
  rintro m2 σ H2 ⟨rfl,n,v,rfl,hm2,hn1,Iu,aaQ,WY⟩
  walk_at "wp"
  refine ite2 (fun c=>Wh.go fun N hN=>?_) (fun c=>?_)
  ·obtain ⟨m',rfl⟩:∃ m',m2=m'+1:=⟨m2 - 1,by omega⟩
   have hn1':1≤n:=by omega
   have e1:n*ws.length ^ (m'+1)=(n*ws.length+0)*ws.length ^ m':=by rw [Nat.pow_succ,Nat.mul_comm (ws.length ^ m'),←Nat.mul_assoc];rfl
   have e2:(n+1)*ws.length ^ (m'+1)=(n*ws.length+ws.length)*ws.length ^ m':=by rw [Nat.pow_succ,Nat.mul_comm (ws.length ^ m'),←Nat.mul_assoc,Nat.add_mul,Nat.one_mul]
   have hnb:n<ws.length ^ (20 - (m'+1)):=by
    have e3:ws.length ^ 20=ws.length ^ (20 - (m'+1))*ws.length ^ (m'+1):=by rw [←Nat.pow_add];congr 1;omega
    rw [e3] at WY
    exact Nat.le_of_mul_le_mul_right WY (Nat.pow_pos (by omega))
   have hfn:fall ws n≤50*(20 - (m'+1)):=mR hb2 hb.le (by omega) hnb
   obtain ⟨r,hr⟩:∃ r,rs[m']? = some r:=⟨_,List.getElem?_eq_getElem (by omega)⟩
   have hr2:=hrs m' r hr
   rw [e1] at Iu ⊢
   rw [e2] at aaQ WY
   walk_at "wp"
   rw [show ((m'+1:Nat):Int) - 1=(m':Int) by omega]
   refine pX (fun r σ H3=>H3=H2∧∃ (f:Nat),r=ws.length - f∧f≤ws.length∧σ=[some (.ref a),some (vI j),some (.ref p),some (vI m'),some (.int (pl - cnt ws ((n*ws.length+f)*ws.length ^ m') M)),some (vI n),some (vI (fall ws n)),some (vI f)]∧cnt ws ((n*ws.length+f)*ws.length ^ m') M≤pl) (ws.length - 0) ⟨rfl,0,rfl,by omega,rfl,Iu⟩ ?_
   rintro r3 σ H3 ⟨rfl,f,rfl,hf,rfl,ab9⟩
   have hfb:f<ws.length:=by
    rcases Nat.lt_or_ge f ws.length with z | z
    ·exact z
    ·have:f=ws.length:=by omega
     rw [this] at ab9
     omega
   have hwl:=Gg hb.le f
   have ae5:=aaB hb M m' hn1' hfb
   have hat:atI (rs.map V.ref) (m':Int)=some (.ref r):=atI_nat (by rw [List.getElem?_map,hr];rfl)
   walk_at "wp"
   refine ⟨_,bA.of hp,_,hat,_,hS,_,mO hfb,?_⟩
   walk_at "wp"
   rw [show (fall ws n:Int)+(wt ws f:Int)=((fall ws n+wt ws f:Nat):Int) by omega]
   refine ⟨_,bA.of hr2,_,nM (by omega),?_⟩
   walk_at "wp"
   refine ite2 (fun c2=>Wh.go fun N2 Sh=>?_) (fun c2=>?_)
   ·walk_at "wp"
    refine ⟨_,bA.of hp,_,hat,_,hS,_,mO hfb,?_⟩
    walk_at "wp"
    rw [show (fall ws n:Int)+(wt ws f:Int)=((fall ws n+wt ws f:Nat):Int) by omega]
    refine ⟨_,bA.of hr2,_,nM (by omega),?_⟩
    walk_at "wp"
    refine Sh (ws.length - (f+1)) _ _ (by omega) ⟨rfl,f+1,rfl,by omega,?_,by omega⟩
    rw [show (pl:Int) - (cnt ws ((n*ws.length+f)*ws.length ^ m') M:Int) - (wb ws M m' (fall ws n+wt ws f):Int)=(pl:Int) - (cnt ws ((n*ws.length+(f+1))*ws.length ^ m') M:Int) by omega]
    rfl
   ·refine ⟨_,hS,?_⟩
    rw [List.length_map]
    refine ⟨.inr ⟨by omega,by omega⟩,_,hS,_,mO hfb,?_⟩
    walk_at "wp"
    refine hN m' _ _ (by omega) ⟨rfl,n*ws.length+f,some (vI f),?_,by omega,.inl ?_,ab9,?_,?_⟩
    ·rw [o9 hb2 hn1' hfb]
     rfl
    ·have:1*1≤n*ws.length:=Nat.mul_le_mul hn1' (by omega)
     omega
    ·rw [Nat.add_assoc];omega
    ·refine Nat.le_trans (Nat.mul_le_mul_right _ ?_) WY
     omega
  ·have hm0:m2=0:=by omega
   subst hm0
   rw [Nat.pow_zero,Nat.mul_one] at Iu aaQ WY
   obtain ⟨g1,g2⟩:=at_end Iu aaQ
   walk_at "wp"
   exact k n (by omega) g1 g2
theorem Fo (T:Txt mg) (F:aM K mg "sum_behind" jZ ["ways","ahead","worths"]) :vp P w K mg base:=by
 refine F.aZ tM.2 CQ.2 CT (fun vs H Q E h=>?_) (fun f cdv A outer s H vs Q E hr h=>?_) <;> obtain ⟨l,a,ws,n,x,F,rfl,hl,hS,Zf,hn,k⟩:=h
 ·rfl
 ·have hu:=hu_of hr
  refine ⟨_,(aq (aU (aL (Gd rfl) (by rfl) T.Zt TY (aj (BP (x:="worth") ⟨rfl,rfl,rfl,rfl,rfl,rfl,rfl,rfl⟩ rfl (o8 (qv 2)) (fun _ _ _ _=>(aY (BL (K:=K) rfl) (qv 1) (aO op_add (qv 2) (qv 0)) (fun _ _=>rfl))) (fun _ _ _ _=>aR (i:=0) (show (["worth","ways","ahead","worths"]:List Str).Nodup by decide +kernel) rfl (Or.inl rfl) (.inr rfl))) ak)))),?_⟩
  walk_at "wp"
  refine Rv.map hS (by rw [List.length_map];exact aD (by omega)) (fun v=>match v with | .int i=>vI (F (x+i.toNat)) | _=>.non) (fun i v H2 R hx hsm hR=>?_) (fun D H2 hD hD2 hsm=>?_)
  ·rw [List.getElem?_map,Option.map_eq_some_iff] at hx
   obtain ⟨w,hw,rfl⟩:=hx
   walk_at "wp"
   rw [show (x:Int)+(w:Int)=((x+w:Nat):Int) by omega]
   exact ⟨_,hsm.sq hl,_,nM (hn w (List.mem_of_getElem? hw)),hR _ (Same.refl _)⟩
  ·walk_at "wp"
   refine ⟨(ws.map fun w=>F (x+w)).map (fun d:Nat=>(d:Int)),SqL.of ?_,?_⟩
   ·rw [hD2,List.map_map,List.map_map,List.map_map]
    rfl
   ·rw [Ca]
    exact k _ hsm
theorem Dz (T:Txt mg) (F:aM K mg "taken_apart" jg ["number","base"]) :lG P w K mg base:=by
 refine F.aZ rJ.2 Ai.2 fX (fun vs H Q E h=>?_) (fun f cdv A outer s H vs Q E hr h=>?_) <;> obtain ⟨n,b,rfl,h1,h2,h3,k⟩:=h
 ·rfl
 ·have hu:=hu_of hr
  refine ⟨_,(ao (aB (i:=2) fX.nd rfl (Or.inl rfl) (cu (aj (aO op_mod (qv 0) (qv 1)) ak)))
   (ao (aB (i:=3) fX.nd rfl (Or.inl rfl) (aO eG (qv 0) (qv 1)))
   (ao (kZ PassesOwn.never (aN uY (qv 3) au (nomark _)) (ao (aP (fU (K:=K) rfl PySem.F.plainAttrs_list PySem.F.slot_list_append PySem.F.type_list_append bY (qv 2) (aj (aO op_mod (qv 3) (qv 1)) ak)))
   (aq (aB (i:=3) fX.nd rfl (Or.inl rfl) (aO eG (qv 3) (qv 1))))))
   (ao (aP (Hi (K:=K) rfl PySem.F.plainAttrs_list PySem.F.slot_list_reverse PySem.F.type_list_reverse Lg (qv 2)))
   (aq (aU (qv 2))))))),?_⟩
  walk_at "wp"
  refine ⟨by omega,by decide,fun p hp=>⟨gQ (by omega) (by omega),?_⟩⟩
  refine pX (fun r σ H2=>∃ (ds:List Nat),σ=[some (vI n),some (vI b),some (.ref p),some (vI r)]∧H2 p=some (.lst (ds.map vI))∧Same H H2∧fl b n=ds++(if r=0 then [] else fl b r)) (n / b) ⟨[n % b],rfl,upd_same,Same.new hp,?_⟩ ?_
  ·by_cases h:b≤n
   ·rw [u6 h1 h,if_neg (by have:=Nat.div_pos h (by omega);omega)]
    rfl
   ·rw [rH (by omega),if_pos (Nat.div_eq_of_lt (by omega)),Nat.mod_eq_of_lt (by omega)]
    rfl
  ·rintro r σ H2 ⟨ds,rfl,hp2,hs,he⟩
   walk_at "wp"
   refine ite2 (fun c=>Wh.go fun N hN=>?_) (fun c=>?_)
   ·walk_at "wp"
    have hl:(ds.map vI).length<sizeLine:=by
     have:=BZ h1 1001 n (by decide) h3
     rw [he,List.length_append] at this
     rw [List.length_map]
     exact aD (by omega)
    refine ⟨⟨_,SqL.of hp2⟩,by omega,_,hp2,hl,gQ (by omega) (by omega),hN (r / b) _ _ (Nat.div_lt_self (by omega) (by omega)) ⟨ds++[r % b],rfl,?_,fun q o e=>?_,?_⟩⟩
    ·rw [upd_same,List.map_append];rfl
    ·rw [upd_ne (ne_of_none e hp)];exact hs _ _ e
    ·rw [he,if_neg (by omega)]
     by_cases h:b≤r
     ·rw [u6 h1 h,if_neg (by have:=Nat.div_pos h (by omega);omega)]
      simp
     ·rw [rH (by omega),if_pos (Nat.div_eq_of_lt (by omega)),Nat.mod_eq_of_lt (by omega)]
      simp
   ·walk_at "wp"
    refine ⟨⟨_,SqL.of hp2⟩,_,hp2,k p _ hp ?_ fun q o e=>?_⟩
    ·rw [upd_same,he,if_pos (by omega),List.append_nil,List.map_reverse]
    ·rw [upd_ne (ne_of_none e hp)];exact hs _ _ e
theorem Sq (T:Txt mg) (F:aM K mg "fallen" xM ["worths","number"]) (dM:lG P w K mg base):kW P w K mg base:=by
 refine F.aZ CW.2 MP.2 M5 (fun vs H Q E h=>?_) (fun f cdv A outer s H vs Q E hr h=>?_) <;> obtain ⟨a,ws,n,rfl,hS,h1,h2,h3,k⟩:=h
 ·rfl
 ·have hu:=hu_of hr
  refine ⟨_,(aq (aU (aL (Gd rfl) (by rfl) T.Zt TY (aj (BP (x:="figure") ⟨rfl,rfl,rfl,rfl,rfl,rfl,rfl,rfl⟩ rfl (o8 (aA dM (hr.mono (by decide)) pass0 (aj (qv 1) (aj (aL aH (by rfl) T.cQ PySem.boot_len (aj (qv 0) ak)) ak)))) (fun _ _ _ _=>(aY (BL (K:=K) rfl) (qv 1) (qv 0) (fun _ _=>rfl))) (fun _ _ _ _=>aR (i:=0) (show (["figure","worths","number"]:List Str).Nodup by decide +kernel) rfl (Or.inl rfl) (.inr rfl))) ak)))),?_⟩
  walk_at "wp"
  refine ⟨_,hS,?_⟩
  rw [List.length_map]
  refine ⟨n,ws.length,rfl,h1,h2,h3,fun p H1 hp hp1 hs=>?_⟩
  walk_at "wp"
  have hlen:(List.map vI (fl ws.length n).reverse).length<sizeLine:=by
   rw [List.length_map,List.length_reverse]
   exact aD (Nat.le_trans (BZ h1 1001 n (by decide) h3) (by decide))
  refine Rv.map (bA.of hp1) hlen (fun x=>match x with | .int i=>vI (wt ws i.toNat) | _=>.non) (fun i x H2 R hx hsm hR=>?_) (fun D H2 hD hD2 hsm=>?_)
  ·rw [List.getElem?_map,Option.map_eq_some_iff] at hx
   obtain ⟨d,hd,rfl⟩:=hx
   have hdl:d<ws.length:=Vb h1 n d (List.mem_reverse.mp (List.mem_of_getElem? hd))
   walk_at "wp"
   exact ⟨_,(hs.trans hsm).sq hS,_,mO hdl,hR _ (Same.refl _)⟩
  ·walk_at "wp"
   refine ⟨((fl ws.length n).reverse.map (wt ws)).map (fun d:Nat=>(d:Int)),SqL.of ?_,?_⟩
   ·rw [hD2,List.map_map,List.map_map,List.map_map]
    rfl
   ·rw [Ca,List.map_reverse,Xy]
    exact k _ (hs.trans hsm)
theorem DG (T:Txt mg) (F:aM K mg "least_first" jh ["ring"]) :ud P w K mg base:=by
 refine F.aZ rK.2 Aj.2 rM (fun vs H Q E h=>?_) (fun f cdv A outer s H vs Q E hr h=>?_) <;> obtain ⟨a,R,rfl,ha,hne,hl,k⟩:=h
 ·rfl
 ·have hu:=hu_of hr
  refine ⟨_,(ao (aB (i:=1) rM.nd rfl (Or.inl rfl) (fU (K:=K) rfl PySem.F.plainAttrs_list PySem.F.slot_list_index PySem.F.type_list_index wH (qv 0) (aj (aL (Ge rfl) (by rfl) T.WW Lj (aj (qv 0) ak)) ak)))
   (aq (aU (aO op_cat (gP FW (qv 0) (gO (qv 1)) pZ) (gP FW (qv 0) pZ (gO (qv 1))))))),?_⟩
  walk_at "wp"
  refine ⟨⟨_,SqL.of ha⟩,R.map (fun d:Nat=>(d:Int)),SqL.of (by rw [List.map_map];exact ha),by simpa using hne,fun M hM hmin=>?_⟩
  obtain ⟨m,hm,rfl⟩:=List.mem_map.mp hM
  obtain ⟨s,hs1,hs2⟩:=wQ hm
  have hlow:Jz R s:=⟨m,hs1,fun x hx=>by have:=hmin _ (List.mem_map_of_mem (f:=fun d:Nat=>(d:Int)) hx);omega,hs2⟩
  have hsl:=hlow.lt
  refine ⟨R.map (fun d:Nat=>(d:Int)),by rw [List.map_map];exact ha,s,by rw [List.getElem?_map,hs1];rfl,fun x hx z=>?_,?_⟩
  ·rw [List.getElem?_map,Option.map_eq_some_iff] at z
   obtain ⟨y,hy,e⟩:=z
   exact hs2 x hx (by rw [hy];congr 1;omega)
  walk_at "wp"
  refine ⟨_,SqL.of ha,fun p hp=>⟨_,SqL.of (Same.new hp _ _ ha),fun q hq=>?_⟩⟩
  have hq':H q=none:=(Same.new hp).free hq
  have hpq:p≠q:=ne_of_none (o:=.lst (oW (R.map vI) (some (s:Int)) none)) upd_same hq
  refine ⟨_,_,by rw [upd_ne hpq];exact upd_same,upd_same,?_,fun r hr=>k s r _ hlow ((Same.new hp).free ((Same.new hq).free hr)) ?_ (((Same.new hp).trans (Same.new hq)).trans (Same.new hr))⟩
  ·rw [sV (by rw [List.length_map];omega),Lq (by rw [List.length_map];omega),List.length_drop,List.length_take,List.length_map]
   exact Nat.le_of_lt (aD (by omega))
  ·rw [upd_same,sV (by rw [List.length_map];omega),Lq (by rw [List.length_map];omega)]
   unfold Xz
   rw [List.map_append,List.map_drop,List.map_take]
theorem Yu (T:Txt mg) (F:aM K mg "fits" Ih ["number","base"]) :Rf P w K mg base:=by
 refine F.aZ Ku.2 WX.2 xO (fun vs H Q E h=>?_) (fun f cdv A outer s H vs Q E hr h=>?_) <;> obtain ⟨n,b,rfl,h1,h2,k⟩:=h
 ·rfl
 ·have hu:=hu_of hr
  refine ⟨_,(ao (aB (i:=2) xO.nd rfl (Or.inl rfl) au)
   (ao (cB PassesOwn.never rfl (bZ rfl T.cO (aj (mL T.CK) ak)) (aR (i:=3) xO.nd rfl (Or.inl rfl)) (ao (aB (i:=2) xO.nd rfl (Or.inl rfl) (aO sO (qv 2) (qv 1)))
   (aq (bM (aN mH (qv 0) (qv 2) (nomark _)) (aq (aU mK)) bF))))
   (aq (aU mK)))),?_⟩
  walk_at "wp"
  refine nH.go (fun i σ H2=>∃ v,σ=[some (.int n),some (vI b),some (.int ((b:Int) ^ i)),v]∧H2=H∧∀ j,0<j→j≤i→(b:Int) ^ j≤n) ⟨none,by simp,rfl,by intro j h0 h1;omega⟩ ?_ ?_
  ·rintro i σ H2 N hi ⟨v,rfl,rfl,hj⟩ hN
   walk_at "wp"
   refine ⟨.inr ⟨by omega,by omega⟩,ite2 (fun c=>?_) (fun c=>?_)⟩
   ·have hp:n<(b:Int) ^ 1001:=by
     rw [←Int.pow_succ] at c
     refine Int.lt_of_lt_of_le c ?_
     have:b ^ (i+1)≤b ^ 1001:=Nat.pow_le_pow_right (by omega) (by omega)
     exact_mod_cast this
    rw [decide_eq_true hp] at k
    exact k
   ·refine hN _ _ ⟨some (.int i),by simp only [Int.pow_succ],rfl,fun j h0 h1=>?_⟩
    by_cases e:j≤i
    ·exact hj j h0 e
    ·have e':j=i+1:=by omega
     rw [e',Int.pow_succ]
     omega
  ·rintro σ H2 ⟨v,rfl,rfl,hj⟩
   walk_at "wp"
   have hp:¬ n<(b:Int) ^ 1001:=by
    have:=hj 1001 (by decide) (by decide)
    omega
   rw [decide_eq_false hp] at k
   exact k
theorem Bd (T:Txt mg) (F:aM K mg "check_number" ig ["number","base"]) (Nb:Rf P w K mg base):rW P w K mg base:=by
 refine F.aZ pF.2 zp.2 zq (fun vs H Q E h=>?_) (fun f cdv A outer s H vs Q E hr h=>?_) <;> obtain ⟨n,b,rfl,h1,h2,h3,k⟩:=h
 ·rfl
 ·have hu:=hu_of hr
  refine ⟨_,(ao (bM (aN mH (qv 0) au (nomark _)) (aq (cW)) bF)
   (aq (bM (p8 (qb (aA Nb (hr.mono (by decide)) pass0 (aj (qv 0) (aj (qv 1) ak))))) (aq (cW)) bF))),?_⟩
  walk_at "wp"
  rw [if_neg (by omega)]
  refine ⟨n,b,rfl,h1,h2,?_⟩
  have h4:(n:Int)<(b:Int) ^ 1001:=by exact_mod_cast h3
  rw [decide_eq_true h4]
  walk_at "wp"
  exact k
theorem DK (T:Txt mg) (F:aM K mg "check_worth" ji ["worth"]) :lH P w K mg base:=by
 refine F.aZ rN.2 Al.2 Am (fun vs H Q E h=>?_) (fun f cdv A outer s H vs Q E hr h=>?_) <;> obtain ⟨w,rfl,h1,k⟩:=h
 ·rfl
 ·have hu:=hu_of hr
  refine ⟨_,(aq (bM (wJ (aN mH (qv 0) au (nomark _)) (qd (aN uY (qv 0) (mL T.jW) (nomark _)))).qt (aq (cW)) bF)),?_⟩
  walk_at "wp"
  rw [if_neg (by omega),if_neg (by omega)]
  exact k
theorem Fp (T:Txt mg) (F:aM K mg "check_base" j4 ["base"]) :vq P w K mg base:=by
 refine F.aZ tO.2 Dd.2 Df (fun vs H Q E h=>?_) (fun f cdv A outer s H vs Q E hr h=>?_) <;> obtain ⟨b,rfl,h1,h2,k⟩:=h
 ·rfl
 ·have hu:=hu_of hr
  refine ⟨_,(aq (bM (wJ (aN mH (qv 0) (mL T.HY) (nomark _)) (qd (aN uY (qv 0) (mL T.Ko) (nomark _)))).qt (aq (cW)) bF)),?_⟩
  walk_at "wp"
  rw [if_neg (by omega),if_neg (by omega)]
  exact k
theorem Bf (T:Txt mg) (F:aM K mg "check_worths" iu ["worths"]) (dO:lH P w K mg base) (qH:vq P w K mg base):bQ P w K mg base:=by
 refine F.aZ pG.2 zu.2 pH (fun vs H Q E h=>?_) (fun f cdv A outer s H vs Q E hr h=>?_) <;> obtain ⟨a,ws,rfl,hS,h1,h2,h3,k⟩:=h
 ·rfl
 ·have hu:=hu_of hr
  refine ⟨_,(ao (aP (aA qH (hr.mono (by decide)) pass0 (aj (aL aH (by rfl) T.cQ PySem.boot_len (aj (qv 0) ak)) ak)))
   (aq (cB PassesOwn.never rfl (o8 (qv 0)) (aR (i:=1) pH.nd rfl (Or.inl rfl)) (aq (aP (aA dO (hr.mono (by decide)) pass0 (aj (qv 1) ak))))))),?_⟩
  walk_at "wp"
  refine ⟨_,hS,?_⟩
  rw [List.length_map]
  refine ⟨_,rfl,h1,h2,?_⟩
  walk_at "wp"
  refine pW.go hS (fun i σ H2=>∃ v,σ=[some (.ref a),v]∧H2=H) ⟨none,rfl,rfl⟩ (fun i σ H2 _ ⟨_,_,e⟩=>e ▸ Same.refl _) ?_ ?_
  ·rintro i x σ H2 N hx ⟨v,rfl,rfl⟩ hN
   rw [List.getElem?_map,Option.map_eq_some_iff] at hx
   obtain ⟨d,hd,rfl⟩:=hx
   have:=h3 d (List.mem_of_getElem? hd)
   walk_at "wp"
   refine ⟨d,rfl,this,?_⟩
   exact hN _ _ ⟨_,rfl,rfl⟩
  ·rintro σ H2 ⟨v,rfl,rfl⟩
   exact k
theorem Nf (T:Txt mg) (F:aM K mg "walk_of" uO ["worths","number"]) (cN:kW P w K mg base) (lU:rW P w K mg base) (aJ:bQ P w K mg base):Dy P w K mg base:=by
 refine F.aZ zZ.2 Kv.2 jx (fun vs H Q E h=>?_) (fun f cdv A outer s H vs Q E hr h=>?_) <;> obtain ⟨a,ws,n,rfl,hS,h1,h2,hw,h3,k⟩:=h
 ·rfl
 ·have hu:=hu_of hr
  refine ⟨_,(ao (aP (aA aJ (hr.mono (by decide)) pass0 (aj (qv 0) ak)))
   (ao (aP (aA lU (hr.mono (by decide)) pass0 (aj (qv 1) (aj (aL aH (by rfl) T.cQ PySem.boot_len (aj (qv 0) ak)) ak))))
   (ao (aB (i:=2) jx.nd rfl (Or.inl rfl) (cu ak))
   (ao (aB (i:=3) jx.nd rfl (Or.inl rfl) kY)
   (ao (aB (i:=4) jx.nd rfl (Or.inl rfl) (qv 1))
   (ao (kZ PassesOwn.never (o7 hu (qv 4) (qv 3)) (ao (jd hu (qv 3) (qv 4) mK rfl)
   (ao (aP (fU (K:=K) rfl PySem.F.plainAttrs_list PySem.F.slot_list_append PySem.F.type_list_append bY (qv 2) (aj (qv 4) ak)))
   (aq (aB (i:=4) jx.nd rfl (Or.inl rfl) (aA cN (hr.mono (by decide)) pass0 (aj (qv 0) (aj (qv 4) ak))))))))
   (aq (aU (qv 2))))))))),?_⟩
  walk_at "wp"
  refine ⟨a,ws,rfl,hS,h1,h2,hw,?_⟩
  walk_at "wp"
  refine ⟨_,hS,?_⟩
  rw [List.length_map]
  refine ⟨n,ws.length,rfl,h1,h2,h3,?_⟩
  walk_at "wp"
  refine ⟨by decide,fun p hp d hd=>?_⟩
  have hd':H d=none:=(Same.new hp).free hd
  have hpd:p≠d:=ne_of_none (o:=.lst []) upd_same hd
  refine pX (fun m σ H2=>∃ i:Nat,m=50053 - i∧i≤50052∧σ=[some (.ref a),some (vI n),some (.ref p),some (.ref d),some (vI (it (fall ws) n i))]∧H2 p=some (.lst ((path (fall ws) n i).map vI))∧H2 d=some (.dK (jz ((path (fall ws) n i).map fun x=>(x,V.bl true))))∧(path (fall ws) n i).Nodup∧Same H H2) 50053 ⟨0,rfl,by omega,rfl,?_,upd_same,List.nodup_nil,(Same.new hp).trans (Same.new hd)⟩ ?_
  ·rw [upd_ne hpd];exact upd_same
  ·rintro m σ H2 ⟨i,rfl,hi,rfl,hp2,hd2,hnd,hs⟩
   walk_at "wp"
   refine ⟨_,DGet.k (k:=Sum.inl ((it (fall ws) n i:Nat):Int)) hd2,?_⟩
   rw [cF,lookup_isSome,List.map_map]
   have e1:(path (fall ws) n i).map ((fun x:Nat×V=>x.1) ∘ fun x=>(x,V.bl true))=path (fall ws) n i:=by
    have:((fun x:Nat×V=>x.1) ∘ fun x:Nat=>(x,V.bl true))=id:=rfl
    rw [this,List.map_id]
   rw [e1]
   walk_at "wp"
   refine ite2 (fun c=>?_) (fun c=>Wh.go fun N hN=>?_)
   ·walk_at "wp"
    exact k i p H2 ⟨hnd,c⟩ hp hp2 hs
   ·walk_at "wp"
    have hnd':=wO hnd c
    have hshort:=vH (Zb h1 hw h3) hnd'
    have hlk:List.lookup (it (fall ws) n i) ((path (fall ws) n i).map fun x=>(x,V.bl true))=none:=by
     cases q:List.lookup (it (fall ws) n i) ((path (fall ws) n i).map fun x=>(x,V.bl true)) with
     | none=>rfl
     | some v =>
      have:(List.lookup (it (fall ws) n i) ((path (fall ws) n i).map fun x=>(x,V.bl true))).isSome=true:=by rw [q];rfl
      rw [lookup_isSome,List.map_map,e1] at this
      exact absurd (of_decide_eq_true this) c
    refine ⟨_,DPut.k (k:=Sum.inl ((it (fall ws) n i:Nat):Int)) hd2 (by rw [je,List.length_map,bf];exact aD (by omega)),?_⟩
    rw [uJ hlk]
    have hp3:upd H2 d (.dK (jz ((path (fall ws) n i).map (fun x=>(x,V.bl true))++[(it (fall ws) n i,V.bl true)]))) p=some (.lst ((path (fall ws) n i).map vI)):=by rw [upd_ne hpd];exact hp2
    refine ⟨⟨_,SqL.of hp3⟩,_,hp3,by rw [List.length_map,bf];exact aD (by omega),?_⟩
    generalize hH4:upd (upd H2 d (.dK (jz ((path (fall ws) n i).map (fun x=>(x,V.bl true))++[(it (fall ws) n i,V.bl true)])))) p (.lst ((path (fall ws) n i).map vI++[vI (it (fall ws) n i)]))=H4
    have Yv:Same H H4:=fun b o e=>by rw [←hH4,upd_ne (ne_of_none e hp),upd_ne (ne_of_none e hd')];exact hs _ _ e
    have DN:H4 p=some (.lst ((path (fall ws) n (i+1)).map vI)):=by rw [←hH4,upd_same,gJ,List.map_append];rfl
    have W0:H4 d=some (.dK (jz ((path (fall ws) n (i+1)).map fun x=>(x,V.bl true)))):=by rw [←hH4,upd_ne hpd.symm,upd_same,gJ,List.map_append];rfl
    refine ⟨a,ws,_,rfl,Yv.sq hS,h1,h2,Px h1 hw h3 i,fun H5 h5=>hN (50053 - (i+1)) _ _ (by omega) ⟨i+1,rfl,by omega,rfl,h5 _ _ DN,h5 _ _ W0,hnd',Yv.trans h5⟩⟩
theorem Ng (T:Txt mg) (F:aM K mg "ring_of" uP ["worths","number"]) (nP:ud P w K mg base) (cN:kW P w K mg base) (zK:Dy P w K mg base):lJ P w K mg base:=by
 refine F.aZ z7.2 Kw.2 mX (fun vs H Q E h=>?_) (fun f cdv A outer s H vs Q E hr h=>?_) <;> obtain ⟨a,ws,n,rfl,hS,h1,h2,hw,h3,k⟩:=h
 ·rfl
 ·have hu:=hu_of hr
  refine ⟨_,(ao (aB (i:=2) mX.nd rfl (Or.inl rfl) (aA zK (hr.mono (by decide)) pass0 (aj (qv 0) (aj (qv 1) ak))))
   (ao (aB (i:=3) mX.nd rfl (Or.inl rfl) (aA cN (hr.mono (by decide)) pass0 (aj (qv 0) (aj (aY bh (qv 2) (aO op_sub (aL aH (by rfl) T.cQ PySem.boot_len (aj (qv 2) ak)) au) (fun _ _=>rfl)) ak))))
   (ao (aB (i:=4) mX.nd rfl (Or.inl rfl) (fU (K:=K) rfl PySem.F.plainAttrs_list PySem.F.slot_list_index PySem.F.type_list_index wH (qv 2) (aj (qv 3) ak)))
   (aq (aU (Hh (aj (aA nP (hr.mono (by decide)) pass0 (aj (gP FW (qv 2) (gO (qv 4)) pZ) ak)) (aj (qv 4) ak)))))))),?_⟩
  walk_at "wp"
  refine ⟨a,ws,n,rfl,hS,h1,h2,hw,h3,fun kk p H1 hk hp hp1 hs1=>?_⟩
  obtain ⟨j,hj,hj2⟩:=bw.mp hk.me
  have hshort:=vH (Zb h1 hw h3) hk.nd
  have Wj:(path (fall ws) n kk)[kk - 1]? = some (it (fall ws) n (kk - 1)):=bW (by omega)
  walk_at "wp"
  refine ⟨_,bA.of hp1,?_⟩
  rw [List.length_map,bf]
  refine ⟨_,bA.of hp1,vI (it (fall ws) n (kk - 1)),?_,?_⟩
  ·rw [show (kk:Int) - 1=((kk - 1:Nat):Int) by omega]
   exact atI_nat (by rw [List.getElem?_map,Wj];rfl)
  refine ⟨a,ws,_,rfl,hs1.sq hS,h1,h2,Px h1 hw h3 _,fun H2 h2'=>?_⟩
  rw [show fall ws (it (fall ws) n (kk - 1))=it (fall ws) n kk by
   have:kk=kk - 1+1:=by omega
   conv=>rhs;rw [this]
   rfl]
  have hp2:=h2' _ _ hp1
  walk_at "wp"
  refine ⟨⟨_,SqL.of hp2⟩,(path (fall ws) n kk).map (fun d:Nat=>(d:Int)),by rw [List.map_map];exact hp2,j,by rw [List.getElem?_map,bW hj,hj2];rfl,fun x hx z=>?_,?_⟩
  ·rw [List.getElem?_map,Option.map_eq_some_iff] at z
   obtain ⟨y,hy,e⟩:=z
   have:=fB hk.nd hy (by rw [show y=it (fall ws) n j by omega];exact bW hj)
   omega
  walk_at "wp"
  refine ⟨_,SqL.of hp2,fun q hq=>?_⟩
  have aaS:oW ((path (fall ws) n kk).map vI) (some (j:Int)) none=((path (fall ws) n kk).drop j).map vI:=by rw [sV (by rw [List.length_map,bf];omega),List.map_drop]
  rw [aaS]
  refine ⟨q,(path (fall ws) n kk).drop j,rfl,upd_same,fun z=>?_,?_,fun s r H3 hlow hr Yw hs3=>?_⟩
  ·have:=congrArg List.length z
   rw [List.length_drop,bf] at this
   simp at this
   omega
  ·rw [List.length_drop,bf];omega
  walk_at "wp"
  have hsame:Same H H3:=((hs1.trans h2').trans (Same.new hq)).trans hs3
  refine ⟨by decide,fun t ht=>k (Xz ((path (fall ws) n kk).drop j) s) j r t _ ⟨kk,s,hk,hj,hj2,hlow,rfl⟩ ((hs1.trans h2').free ((Same.new hq).free hr)) (hsame.free ht) ?_ upd_same (hsame.trans (Same.new ht))⟩
  rw [upd_ne (ne_of_none Yw ht)]
  exact Yw
theorem KQ (T:Txt mg) (F:aM K mg "bound_of" qw ["worths"]) (cN:kW P w K mg base) (aJ:bQ P w K mg base):uf P w K mg base:=by
 refine F.aZ xP.2 Ii.2 j5 (fun vs H Q E h=>?_) (fun f cdv A outer s H vs Q E hr h=>?_) <;> obtain ⟨a,ws,rfl,hS,h1,h2,hw,k⟩:=h
 ·rfl
 ·have hu:=hu_of hr
  refine ⟨_,(ao (aP (aA aJ (hr.mono (by decide)) pass0 (aj (qv 0) ak)))
   (ao (aB (i:=1) j5.nd rfl (Or.inl rfl) au)
   (ao (cB PassesOwn.never rfl (bZ rfl T.cO (aj (mL T.Ib) ak)) (aR (i:=2) j5.nd rfl (Or.inl rfl)) (aq (bM (aN op_ge (aA cN (hr.mono (by decide)) pass0 (aj (qv 0) (aj (qv 2) ak))) (qv 2) (nomark _)) (aq (aB (i:=1) j5.nd rfl (Or.inl rfl) (aO op_add (qv 2) au))) bF)))
   (aq (aU (qv 1)))))),?_⟩
  walk_at "wp"
  refine ⟨a,ws,rfl,hS,h1,h2,hw,?_⟩
  walk_at "wp"
  refine nH.go (fun i σ H2=>∃ (B:Nat) (v:Option V),σ=[some (.ref a),some (vI B),v]∧Same H H2∧1≤B∧B≤i+1∧B≤451∧B - 1≤fall ws (B - 1)∧∀ n,B≤n→n<i→fall ws n<n) ⟨1,none,rfl,Same.refl _,by omega,by omega,by omega,by omega,fun n _ h=>by omega⟩ ?_ ?_
  ·rintro i σ H2 N hi ⟨B,v,rfl,hs,hB1,hB2,hB3,SJ,hB5⟩ hN
   walk_at "wp"
   refine ⟨a,ws,i,rfl,hs.sq hS,h1,h2,by have:=wL h1;omega,fun H3 h3=>?_⟩
   walk_at "wp"
   refine ite2 (fun c=>hN _ _ ⟨i+1,some (.int i),rfl,hs.trans h3,by omega,by omega,by omega,?_,fun n h h'=>by omega⟩) (fun c=>hN _ _ ⟨B,some (.int i),rfl,hs.trans h3,hB1,by omega,hB3,SJ,fun n h h'=>?_⟩)
   ·rw [show i+1 - 1=i by omega];omega
   ·by_cases e:n=i
    ·subst e;omega
    ·exact hB5 n h (by omega)
  ·rintro σ H2 ⟨B,v,rfl,hs,hB1,hB2,hB3,SJ,hB5⟩
   walk_at "wp"
   refine k B H2 ⟨hB1,SJ,fun n h=>?_⟩ hB3 hs
   by_cases e:n<451
   ·exact hB5 n h e
   ·exact eN h1 hw (by omega)
theorem KR (T:Txt mg) (F:aM K mg "rings_of" qx ["worths"]) (cV:lJ P w K mg base) (cN:kW P w K mg base) (iV:uf P w K mg base):gM P w K mg base:=by
 refine F.aZ xQ.2 Ij.2 dB (fun vs H Q E h=>?_) (fun f cdv A outer s H vs Q E hr h=>?_) <;> obtain ⟨a,ws,rfl,hS,h2,Zf,hw,k⟩:=h
 ·rfl
 ·have hu:=hu_of hr
  refine ⟨_,(ao (aB (i:=1) dB.nd rfl (Or.inl rfl) (aA iV (hr.mono (by decide)) pass0 (aj (qv 0) ak)))
   (ao (aB (i:=2) dB.nd rfl (Or.inl rfl) (cu ak))
   (ao (aB (i:=3) dB.nd rfl (Or.inl rfl) kY)
   (ao (cB PassesOwn.never rfl (bZ rfl T.cO (aj (qv 1) ak)) (aR (i:=4) dB.nd rfl (Or.inl rfl)) (ao (aB (i:=5) dB.nd rfl (Or.inl rfl) (qv 4))
   (ao (kZ PassesOwn.never (o7 hu (qv 5) (qv 3)) (ao (jd hu (qv 3) (qv 5) (qv 4) rfl)
   (aq (aB (i:=5) dB.nd rfl (Or.inl rfl) (aA cN (hr.mono (by decide)) pass0 (aj (qv 0) (aj (qv 5) ak)))))))
   (aq (bM (aN op_eq (bD hu (qv 3) (qv 5) (fun _ _=>rfl)) (qv 4) (nomark _)) (aq (aP (fU (K:=K) rfl PySem.F.plainAttrs_list PySem.F.slot_list_append PySem.F.type_list_append bY (qv 2) (aj (aY bh (aA cV (hr.mono (by decide)) pass0 (aj (qv 0) (aj (qv 5) ak))) au (fun _ _=>rfl)) ak)))) bF)))))
   (aq (aU (aL (Mu (Mt hr)) (by rfl) T.Km FJ (aj (qv 2) ak)))))))),?_⟩
  walk_at "wp"
  refine ⟨a,ws,rfl,hS,h2,Zf,hw,fun B H1 hB ace h1=>?_⟩
  walk_at "wp"
  refine ⟨by decide,fun p hp d hd=>⟨by omega,by omega,?_⟩⟩
  have hp0:H p=none:=h1.free hp
  have hd0:H d=none:=h1.free ((Same.new hp).free hd)
  have hpd:p≠d:=ne_of_none (o:=.lst []) upd_same hd
  refine nH.go (fun i σ H2=>∃ (ps:List (Nat×V)) (ls:List (Addr×List Int)) (Rs:List (List Nat)) (v1 v2:Option V),σ=[some (.ref a),some (vI B),some (.ref p),some (.ref d),v1,v2]∧H2 p=some (.lst (ls.map fun q=>V.ref q.1))∧H2 d=some (.dK (jz ps))∧Met (fall ws) i (ps.map (·.1))∧(∀ n v,ps.lookup n=some v→∃ s,v=vI s∧s<i)∧Rgs (fall ws) (ps.map (·.1)) Rs∧ls.map (·.2)=Rs.map (fun R=>R.map fun d:Nat=>(d:Int))∧(∀ q∈ls,H q.1=none∧H2 q.1=some (.lst (q.2.map V.int))∧q.1≠p∧q.1≠d)∧Same H H2∧(i=0→ps=[])∧(0<i→ls≠[])) ⟨[],[],[],none,none,rfl,by rw [upd_ne hpd];exact upd_same,upd_same,⟨fun n hn=>absurd hn (by simp),fun n hn=>absurd hn (by simp),List.nodup_nil,fun s hs=>absurd hs (by omega)⟩,fun n v e=>by simp at e,⟨fun R hR=>absurd hR (by simp),List.nodup_nil,fun R M L _ hM=>absurd hM (by simp)⟩,rfl,fun q hq=>absurd hq (by simp),(h1.trans (Same.new hp)).trans (Same.new hd),fun _=>rfl,fun z=>absurd z (by omega)⟩ ?_ ?_
  ·rintro i σ H2 N hi ⟨ps,ls,Rs,v1,v2,rfl,hp2,hd2,hm,hv,hr,hlr,hl,hs2,hz0,hz1⟩ hN
   rw [Int.zero_add]
   have acf:i≤450:=by omega
   have hit:=LQ h2 hw acf
   have hpow:∀ x,x≤450→x<ws.length ^ 1001:=fun x hx=>by have:=wL h2;omega
   walk_at "wp"
   refine pX (fun m σ H3=>∃ t:Nat,m=452 - t∧K4 (fall ws) i (ps.map (·.1)) t∧σ=[some (.ref a),some (vI B),some (.ref p),some (.ref d),some (vI i),some (vI (it (fall ws) i t))]∧H3 d=some (.dK (jz (ps++(path (fall ws) i t).map fun x=>(x,vI i))))∧(∀ b o,b≠d→H2 b=some o→H3 b=some o)) 452 ⟨0,rfl,K4.zero hm.nd,rfl,by show H2 d=some (.dK (jz (ps++[])));rw [List.append_nil];exact hd2,fun b o _ e=>e⟩ ?_
   rintro m σ H3 ⟨t,rfl,hwk,rfl,Bg,h3⟩
   have hs3:Same H H3:=fun b o e=>h3 b o (ne_of_none e hd0) (hs2 b o e)
   obtain ⟨ht,hlen⟩:=hwk.short hm.le hit
   have hkeys:(ps++(path (fall ws) i t).map fun x=>(x,vI i)).map (·.1)=ps.map (·.1)++path (fall ws) i t:=by
    rw [List.map_append,List.map_map]
    congr 1
    exact List.map_id _
   walk_at "wp"
   refine ⟨_,DGet.k (k:=Sum.inl ((it (fall ws) i t:Nat):Int)) Bg,?_⟩
   rw [cF,lookup_isSome,hkeys]
   have hp3:H3 p=some (.lst (ls.map fun q=>V.ref q.1)):=h3 p _ hpd hp2
   have lk:∀ (l:List Nat) (n:Nat) (v:V),(l.map fun x=>(x,vI i)).lookup n=some v→v=vI i:=fun l=>by
    induction l with
    | nil=>intro n v e;simp at e
    | cons x r ih =>
     intro n v e
     rw [List.map_cons,List.lookup_cons] at e
     split at e
     ·exact (Option.some.inj e).symm
     ·exact ih n v e
   have hv2:∀ n v,(ps++(path (fall ws) i t).map fun x=>(x,vI i)).lookup n=some v→∃ s,v=vI s∧s<i+1:=fun n v e=>by
    rw [List.lookup_append] at e
    cases e2:ps.lookup n with
    | some v' =>
     rw [e2] at e
     obtain ⟨s,h4,h5⟩:=hv n v' e2
     have:v' = v:=Option.some.inj e
     exact ⟨s,by rw [←this];exact h4,by omega⟩
    | none =>
     rw [e2] at e
     exact ⟨i,lk _ n v e,by omega⟩
   refine ite2 (fun c=>?_) (fun c=>Wh.go fun N' hN'=>?_)
   ·have c:=of_decide_eq_true c
    have hmn:=hm.next hwk hit c
    by_cases hin:it (fall ws) i t∈ps.map (·.1)
    ·have hsome:(ps.lookup (it (fall ws) i t)).isSome=true:=by rw [lookup_isSome];exact decide_eq_true hin
     obtain ⟨v,hv'⟩:=Option.isSome_iff_exists.mp hsome
     obtain ⟨s,rfl,hsi⟩:=hv _ _ hv'
     refine ⟨vI s,.inl ⟨_,Sum.inl ((it (fall ws) i t:Nat):Int),.inl Bg,rfl,by rw [cF,List.lookup_append,hv'];rfl⟩,?_⟩
     walk_at "wp"
     rw [if_neg (by omega)]
     exact hN _ _ ⟨_,ls,Rs,_,_,rfl,hp3,Bg,by rw [hkeys];exact hmn,hv2,by rw [hkeys];exact hr.old hm hin,hlr,fun q hq=>⟨(hl q hq).1,h3 _ _ (hl q hq).2.2.2 (hl q hq).2.1,(hl q hq).2.2⟩,hs3,fun z=>absurd z (by omega),fun _=>hz1 (Nat.pos_of_ne_zero fun z=>by rw [hz0 z] at hin;simp at hin)⟩
    ·have hpt:it (fall ws) i t∈path (fall ws) i t:=(List.mem_append.mp c).resolve_left hin
     have hsome:((ps++(path (fall ws) i t).map fun x=>(x,vI i)).lookup (it (fall ws) i t)).isSome=true:=by rw [lookup_isSome,hkeys];exact decide_eq_true c
     obtain ⟨v,hv'⟩:=Option.isSome_iff_exists.mp hsome
     have hvi:v=vI i:=by
      have e:=hv'
      rw [List.lookup_append] at e
      cases e2:ps.lookup (it (fall ws) i t) with
      | some v' =>
       have:(ps.lookup (it (fall ws) i t)).isSome=true:=by rw [e2];rfl
       rw [lookup_isSome] at this
       exact absurd (of_decide_eq_true this) hin
      | none=>rw [e2] at e;exact lk _ _ v e
     subst hvi
     refine ⟨vI i,.inl ⟨_,Sum.inl ((it (fall ws) i t:Nat):Int),.inl Bg,rfl,by rw [cF,hv']⟩,?_⟩
     walk_at "wp"
     refine ⟨⟨_,SqL.of hp3⟩,a,ws,it (fall ws) i t,rfl,hs3.sq hS,h2,Zf,hw,hpow _ (hit t),fun R j q tt H4 hR hq htt hq4 adC h4=>?_⟩
     walk_at "wp"
     have few:Rs.length<128:=by
      have:=yV h2 Zf hw hr.nd (fun M hM=>by
       obtain ⟨R',hR',rfl⟩:=List.mem_map.mp hM
       obtain ⟨M,L,h5,_⟩:=hr.ring R' hR'
       rw [h5.headD];exact ⟨R',L,h5⟩)
      rw [List.length_map] at this
      exact this
     have hll:ls.length=Rs.length:=by have:=congrArg List.length hlr;simpa using this
     have hqp:q≠p:=fun z=>by rw [z,hp3] at hq;cases hq
     have hqd:q≠d:=fun z=>by rw [z,Bg] at hq;cases hq
     refine ⟨_,bA.ofT adC,_,rfl,_,h4 _ _ hp3,by rw [List.length_map];exact aD (by omega),?_⟩
     refine hN _ _ ⟨_,ls++[(q,R.map fun d:Nat=>(d:Int))],Rs++[R],_,_,rfl,?_,?_,by rw [hkeys];exact hmn,hv2,by rw [hkeys];exact hr.new hm hwk hpt hR hmn.clo,?_,?_,?_,fun z=>absurd z (by omega),fun _=>by simp⟩
     ·rw [upd_same,List.map_append];rfl
     ·rw [upd_ne (Ne.symm hpd)];exact h4 _ _ Bg
     ·rw [List.map_append,List.map_append,hlr];rfl
     ·intro q' hq'
      rcases List.mem_append.mp hq' with z | z
      ·obtain ⟨g1,g2,g3,g4⟩:=hl q' z
       exact ⟨g1,by rw [upd_ne g3];exact h4 _ _ (h3 _ _ g4 g2),g3,g4⟩
      ·rw [List.mem_singleton.mp z]
       refine ⟨hs3.free hq,?_,hqp,hqd⟩
       show upd H4 p _ q=_
       rw [upd_ne hqp,hq4,List.map_map];rfl
     ·intro b o e
      rw [upd_ne (ne_of_none e hp0)]
      exact h4 _ _ (hs3 _ _ e)
   ·have c:it (fall ws) i t ∉ ps.map (·.1)++path (fall ws) i t:=fun z=>c (decide_eq_true z)
    walk_at "wp"
    have hlk:(ps++(path (fall ws) i t).map fun x=>(x,vI i)).lookup (it (fall ws) i t)=none:=by
     cases q:(ps++(path (fall ws) i t).map fun x=>(x,vI i)).lookup (it (fall ws) i t) with
     | none=>rfl
     | some v =>
      have:((ps++(path (fall ws) i t).map fun x=>(x,vI i)).lookup (it (fall ws) i t)).isSome=true:=by rw [q];rfl
      rw [lookup_isSome,hkeys] at this
      exact absurd (of_decide_eq_true this) c
    refine ⟨_,DPut.k (k:=Sum.inl ((it (fall ws) i t:Nat):Int)) Bg (by
     rw [je,←List.length_map (f:=fun x:Nat×V=>x.1),hkeys];exact aD (by omega)),?_⟩
    rw [uJ hlk]
    have hsd:Same H (upd H3 d (.dK (jz (ps++(path (fall ws) i t).map (fun x=>(x,vI i))++[(it (fall ws) i t,vI i)])))):=fun b o e=>by rw [upd_ne (ne_of_none e hd0)];exact hs3 _ _ e
    refine ⟨a,ws,it (fall ws) i t,rfl,hsd.sq hS,h2,Zf,hpow _ (hit t),fun H5 h5=>?_⟩
    walk_at "wp"
    refine hN' (452 - (t+1)) _ _ (by omega) ⟨t+1,rfl,hwk.succ c,rfl,?_,fun b o hb e=>h5 _ _ (by rw [upd_ne hb];exact h3 _ _ hb e)⟩
    rw [gJ,List.map_append,←List.append_assoc]
    exact h5 _ _ upd_same
  ·rintro σ H2 ⟨ps,ls,Rs,v1,v2,rfl,hp2,hd2,hm,hv,hr,hlr,hl,hs2,hz0,hz1⟩
   walk_at "wp"
   have hll:ls.length=Rs.length:=by have:=congrArg List.length hlr;simpa using this
   have few:Rs.length<128:=by
    have:=yV h2 Zf hw hr.nd (fun M hM=>by
     obtain ⟨R',hR',rfl⟩:=List.mem_map.mp hM
     obtain ⟨M,L,h5,_⟩:=hr.ring R' hR'
     rw [h5.headD];exact ⟨R',L,h5⟩)
    rw [List.length_map] at this
    exact this
   have hof:∀ q∈ls,∃ R M L,aX (fall ws) R M L∧q.2=R.map (fun d:Nat=>(d:Int)):=fun q hq=>by
    have:q.2∈Rs.map (fun R=>R.map fun d:Nat=>(d:Int)):=by rw [←hlr];exact List.mem_map_of_mem hq
    obtain ⟨R,hR,e⟩:=List.mem_map.mp this
    obtain ⟨M,L,h5,_⟩:=hr.ring R hR
    exact ⟨R,M,L,h5,e.symm⟩
   have hnd:(ls.map fun q=>q.2.headD 0).Nodup:=by
    have e1:(ls.map fun q=>q.2.headD 0)=(Rs.map fun R=>R.headD 0).map (fun d:Nat=>(d:Int)):=by
     have e2:(ls.map fun q=>q.2.headD 0)=(ls.map (·.2)).map (fun l=>l.headD 0):=by rw [List.map_map];rfl
     rw [e2,hlr,List.map_map,List.map_map]
     refine List.map_congr_left fun R _=>?_
     cases R <;> rfl
    rw [e1]
    exact List.pairwise_map.mpr (hr.nd.imp fun h e=>h (by have:((_:Nat):Int)=((_:Nat):Int):=e;omega))
   refine ⟨ls,hp2,fun q hq=>⟨?_,(hl q hq).2.1⟩,hnd,by omega,fun out l ho K5 hl0=>k l out _ (hs2.free hl0) upd_same (fun q hq=>?_) K5 (by rw [ho.length_eq];omega) (fun z=>hz1 hB.pos (List.eq_nil_of_length_eq_zero (by rw [←ho.length_eq,z];rfl))) (fun R M L h5=>?_) (hs2.trans (Same.new hl0))⟩
   ·obtain ⟨R,M,L,h5,e⟩:=hof q hq
    rw [e]
    intro z
    have h6:=h5.head
    cases R with
    | nil=>cases h6
    | cons x r=>cases z
   ·have hq':=ho.mem_iff.mp hq
    obtain ⟨g1,g2,g3,g4⟩:=hl q hq'
    exact ⟨g1,(Same.new hl0) _ _ g2,hof q hq'⟩
   ·have hMf:M≤fall ws M:=h5.low _ (h5.eO 1)
    have hMB:M<B:=by
     apply Nat.lt_of_not_le
     intro z
     have:=hB.from_ M z
     omega
    have hR:=hr.all R M L h5 (hm.all M hMB)
    have:(R.map fun d:Nat=>(d:Int))∈ls.map (·.2):=by rw [hlr];exact List.mem_map_of_mem hR
    obtain ⟨q,hq,e⟩:=List.mem_map.mp this
    exact ⟨q,ho.mem_iff.mpr hq,e⟩
theorem DP (T:Txt mg) (F:aM K mg "ring_places" jj ["worths"]) (cN:kW P w K mg base) (cV:lJ P w K mg base) (iV:uf P w K mg base) (bK:gM P w K mg base):lK P w K mg base:=by
 refine F.aZ rO.2 Aq.2 cC (fun vs H Q E h=>?_) (fun f cdv A outer s H vs Q E hr h=>?_) <;> obtain ⟨a,ws,rfl,hS,hb,k⟩:=h
 ·rfl
 ·have hu:=hu_of hr
  refine ⟨_,(ao (aB (i:=1) cC.nd rfl (Or.inr rfl) kY)
   (ao (cB PassesOwn.never rfl (Bm rfl T.mV (aj (aA bK (hr.mono (by decide)) pass0 (aj (qv 0) ak)) ak)) (Ho (K:=K) rfl rfl (ju (aR (i:=2) cC.nd rfl (Or.inl rfl)) (ju (aR (i:=3) cC.nd rfl (Or.inl rfl)) Bo))) (aq (jd hu (qv 1) (aY bh (qv 3) au (fun _ _=>rfl)) (qv 2) rfl)))
   (ao (aB (i:=4) cC.nd rfl (Or.inl rfl) (aA iV (hr.mono (by decide)) pass0 (aj (qv 0) ak)))
   (ao (Cj (i:=5) cC.nd rfl rfl ⟨rfl,rfl,rfl,rfl,rfl,rfl,rfl,rfl⟩ rfl (bZ rfl T.cO (aj (qv 4) ak)) (fun _ _ _ _=>(bD hu (qv 2) (aY (BL (K:=K) rfl) (aY (BL (K:=K) rfl) (aA cV (hr.mono (by decide)) pass0 (aj (qv 1) (aj (qv 0) ak))) au (fun _ _=>rfl)) au (fun _ _=>rfl)) (fun _ _=>rfl))) (fun _ _ _ _=>aR (i:=0) (show (["number","worths","place_by_least","place","ring","bound","places",""]:List Str).Nodup by decide +kernel) rfl (Or.inl rfl) (.inr rfl)))
   (ao (cB PassesOwn.never rfl (yN rfl T.cO (aj (qv 4) (aj (aO op_add (mL T.Kq) au) ak))) (aR (i:=6) cC.nd rfl (Or.inl rfl)) (aq (aP (fU (K:=K) rfl PySem.F.plainAttrs_list PySem.F.slot_list_append PySem.F.type_list_append bY (qv 5) (aj (aY bh (qv 5) (aA cN (hr.mono (by decide)) pass0 (aj (qv 0) (aj (qv 6) ak))) (fun _ _=>rfl)) ak)))))
   (aq (aU (qv 5)))))))),?_⟩
  have h2:=hb.two
  have hpow:∀ x,x≤1001→x<ws.length ^ 1001:=fun x hx=>by have:=wL h2;omega
  walk_at "wp"
  refine fun d hd=>⟨a,ws,rfl,(Same.new hd).sq hS,hb.two,hb.top,hb.le,fun l out H2 hl hl2 ho K5 hlen hne hall h12=>?_⟩
  have hh:=lB hb (fun p hp=>(ho p hp).2.2) K5 hall
  have hd2:=h12 _ _ (upd_same (H:=H) (a:=d) (o:=.dK []))
  have Ss:Same H H2:=(Same.new hd).trans h12
  have hol:out.length=(aW ws).length:=by have:=congrArg List.length hh;simpa using this
  have adD:=hb.few
  walk_at "wp"
  refine Lr.go (xs:=out.map fun p=>V.ref p.1) (SqL.of hl2) (fun i σ H3=>i≤out.length∧∃ v1 v2,σ=[some (.ref a),some (.ref d),v1,v2,none,none,none]∧H3 d=some (.dK (jz (lps ws i)))∧∀ b o,b≠d→H2 b=some o→H3 b=some o) ⟨Nat.zero_le _,none,none,rfl,hd2,fun b o _ e=>e⟩ ?_ ?_ ?_
  ·rintro i σ H3 _ ⟨_,v1,v2,rfl,_,h3⟩ o e
   exact h3 l o (fun z=>by rw [z,hd2] at hl2;cases hl2) e
  ·rintro i x t σ H3 N hx ⟨hi,v1,v2,rfl,Bg,h3⟩ ht hN
   rw [List.getElem?_map,Option.map_eq_some_iff] at hx
   obtain ⟨q,hq,rfl⟩:=hx
   have hqm:=List.mem_of_getElem? hq
   obtain ⟨hq0,hq2,R,M,L,hR,hqR⟩:=ho q hqm
   have hhd:q.2.headD 0=(M:Int):=by
    have:=hR.head
    rw [hqR]
    cases R with
    | nil=>cases this
    | cons x r=>have e:x=M:=Option.some.inj this;rw [e];rfl
   have hM:(aW ws)[i]? = some M:=by
    have e:=congrArg (fun l:List Int=>l[i]?) hh
    simp only [List.getElem?_map,hq] at e
    rw [Option.map_some,hhd] at e
    cases q3:(aW ws)[i]? with
    | none=>rw [q3] at e;cases e
    | some m=>rw [q3] at e;have e2:(M:Int)=(m:Int):=Option.some.inj e;rw [show m=M by omega]
   have hq0':(q.2.map V.int)[0]? = some (vI M):=by rw [hqR,List.getElem?_map,List.getElem?_map,hR.head];rfl
   have hqd:q.1≠d:=fun z=>by rw [z,hd2] at hq2;cases hq2
   have hdt:d≠t:=ne_of_none Bg ht
   walk_at "wp"
   refine ⟨_,SqT.of upd_same,by rfl,?_⟩
   walk_at "wp"
   have h3':∀ b o,b≠d→H2 b=some o→upd H3 t (.tup [.int (i:Int),.ref q.1]) b=some o:=fun b o hb' e=>Same.new ht _ _ (h3 b o hb' e)
   have ach:upd H3 t (.tup [.int (i:Int),.ref q.1]) d=some (.dK (jz (lps ws i))):=by rw [upd_ne hdt];exact Bg
   generalize upd H3 t (.tup [.int (i:Int),.ref q.1])=H4 at h3' ach
   refine ⟨_,bA.of (h3' _ _ hqd hq2),_,atI_nat (j:=0) hq0',?_⟩
   have hil:i<out.length:=(List.getElem?_eq_some_iff.mp hq).1
   refine ⟨_,DPut.k (k:=Sum.inl ((M:Nat):Int)) ach (by rw [je,X6];exact aD (by omega)),?_⟩
   rw [uJ (Qn hM)]
   refine hN _ _ ⟨by omega,_,_,rfl,?_,fun b o hb' e=>by rw [upd_ne hb'];exact h3' b o hb' e⟩
   rw [upd_same,JT,List.getD_eq_getElem?_getD,hM];rfl
  ·rintro σ H3 ⟨_,v1,v2,rfl,Bg,h3⟩
   rw [List.length_map,hol] at Bg
   have Nh:Same H H3:=fun b o e=>h3 b o (ne_of_none e hd) (Ss b o e)
   walk_at "wp"
   refine ⟨a,ws,rfl,Nh.sq hS,hb.two,hb.top,hb.le,fun B H4 hB ace h4=>?_⟩
   walk_at "wp"
   have Iv:Same H H4:=Nh.trans h4
   have W0:=h4 _ _ Bg
   refine ⟨by omega,by omega,Sx.map (f:=fun n=>vI (ix ws (hm (fall ws) n))) (aD (by omega)) (fun n H5 R hn h5 hR=>?_) (fun p H5 hp hp5 h5=>?_)⟩
   ·walk_at "wp"
    refine ⟨a,ws,n,rfl,(Iv.trans h5).sq hS,hb.two,hb.top,hb.le,hpow n (by omega),fun R' j rp t H6 hR' hrp ht adG ht6 h6=>?_⟩
    obtain ⟨L',Ac⟩:=hR'.hmR
    walk_at "wp"
    refine ⟨_,bA.ofT ht6,_,rfl,?_⟩
    walk_at "wp"
    refine ⟨_,bA.of adG,vI (hm (fall ws) n),atI_nat (j:=0) (by rw [List.getElem?_map,Ac.head];rfl),?_⟩
    have hmem:=hb.sZ n
    refine ⟨vI (ix ws (hm (fall ws) n)),?_,hR _ h6⟩
    have:=DGet.k (k:=Sum.inl ((hm (fall ws) n:Nat):Int)) (h6 _ _ (h5 _ _ W0))
    rw [cF,Qo (Nat.le_refl _) (Qm hmem) hmem] at this
    exact this
   ·refine ⟨⟨by omega,by omega⟩,?_⟩
    rw [show ((1001:Int) - (B:Int)).toNat=1001 - B by omega]
    have Zu:H p=none:=Iv.free hp
    refine nH.go (fun i σ H6=>∃ v,σ=[some (.ref a),some (.ref d),v1,v2,some (vI B),some (.ref p),v]∧H6 p=some (.lst ((tab (B+i) (fun n=>ix ws (hm (fall ws) n))).map vI))∧Same H H6) ⟨none,rfl,?_,Iv.trans h5⟩ ?_ ?_
    ·rw [hp5];unfold tab;rw [List.map_map];rfl
    ·rintro i σ H6 N hi ⟨v,rfl,SM,h6⟩ hN
     rw [show (B:Int)+(i:Int)=((B+i:Nat):Int) by omega]
     walk_at "wp"
     refine ⟨⟨_,SqL.of SM⟩,a,ws,B+i,rfl,h6.sq hS,hb.two,hb.top,hpow _ (by omega),fun H7 h7=>?_⟩
     have hlt:=hB.from_ (B+i) (by omega)
     walk_at "wp"
     refine ⟨_,bA.of (h7 _ _ SM),_,nM hlt,_,h7 _ _ SM,by rw [List.length_map,dw];exact aD (by omega),hN _ _ ⟨_,rfl,?_,fun b o e=>by rw [upd_ne (ne_of_none e Zu)];exact h7 _ _ (h6 _ _ e)⟩⟩
     rw [upd_same,hb.wW]
     unfold tab
     rw [←Nat.add_assoc,List.range_succ,List.map_append,List.map_append];rfl
    ·rintro σ H6 ⟨v,rfl,SM,h6⟩
     walk_at "wp"
     rw [show B+(1001 - B)=1001 by omega] at SM
     exact k p H6 Zu SM h6
theorem DQ (T:Txt mg) (F:aM K mg "ways_behind" jk ["worths","ring_place"]) (qI:vp P w K mg base) (dU:lK P w K mg base):ug P w K mg base:=by
 refine F.aZ rP.2 Ar.2 dJ (fun vs H Q E h=>?_) (fun f cdv A outer s H vs Q E hr h=>?_) <;> obtain ⟨a,ws,M,rfl,hS,hb,hM,k⟩:=h
 ·rfl
 ·have hu:=hu_of hr
  refine ⟨_,(ao (aB (i:=2) dJ.nd rfl (Or.inr rfl) (BP (x:="place") ⟨rfl,rfl,rfl,rfl,rfl,rfl,rfl,rfl⟩ rfl (o8 (aA dU (hr.mono (by decide)) pass0 (aj (qv 0) ak))) (fun _ _ _ _=>(Jy (aN op_eq (qv 0) (qv 2) (nomark _)) au au)) (fun _ _ _ _=>aR (i:=0) (show (["place","worths","ring_place","ways","behind","more"]:List Str).Nodup by decide +kernel) rfl (Or.inl rfl) (.inr rfl))))
   (ao (aB (i:=3) dJ.nd rfl (Or.inl rfl) (cu (aj (qv 2) ak)))
   (ao (cB PassesOwn.never rfl (yN rfl T.cO (aj au (aj (mL T.tK) ak))) (aR (i:=4) dJ.nd rfl (Or.inl rfl)) (ao (aB (i:=2) dJ.nd rfl (Or.inr rfl) (BP (x:="ahead") ⟨rfl,rfl,rfl,rfl,rfl,rfl,rfl,rfl⟩ rfl (bZ rfl T.cO (aj (aO op_sub (aL aH (by rfl) T.cQ PySem.boot_len (aj (qv 2) ak)) (mL T.jW)) ak)) (fun _ _ _ _=>(aA qI (hr.mono (by decide)) pass0 (aj (qv 3) (aj (qv 0) (aj (qv 1) ak))))) (fun _ _ _ _=>aR (i:=0) (show (["ahead","worths","ring_place","ways","behind","more"]:List Str).Nodup by decide +kernel) rfl (Or.inl rfl) (.inr rfl))))
   (aq (aP (fU (K:=K) rfl PySem.F.plainAttrs_list PySem.F.slot_list_append PySem.F.type_list_append bY (qv 3) (aj (qv 2) ak))))))
   (aq (aU (qv 3)))))),?_⟩
  walk_at "wp"
  refine ⟨a,ws,rfl,hS,hb,fun q H1 hq hq1 h1=>?_⟩
  walk_at "wp"
  refine Rv.map (bA.of hq1) (by rw [List.length_map,dw];exact aD (by omega)) (fun v=>match v with | .int i=>if i=((ix ws M:Nat):Int) then vI 1 else vI 0 | _=>.non) (fun i v H2 R hx hsm hR=>?_) (fun D H2 hD hD2 hsm=>?_)
  ·rw [List.getElem?_map,Option.map_eq_some_iff] at hx
   obtain ⟨w,hw,rfl⟩:=hx
   have hR':=hR H2 (Same.refl _)
   walk_at "wp"
   refine ite2 (fun c=>?_) (fun c=>?_)
   ·rw [show (match vI w with | .int i=>if i=((ix ws M:Nat):Int) then vI 1 else vI 0 | _=>.non)=vI 1 from if_pos c] at hR'
    exact hR'
   ·rw [show (match vI w with | .int i=>if i=((ix ws M:Nat):Int) then vI 1 else vI 0 | _=>.non)=vI 0 from if_neg c] at hR'
    exact hR'
  have Xb:H2 D=some (.lst ((tab (1001 - 50*0) (wb ws M 0)).map vI)):=by
   rw [hD2]
   unfold tab
   rw [List.map_map,List.map_map,List.map_map]
   refine congrArg (fun l=>some (HO.lst l)) (List.map_congr_left fun s _=>?_)
   show (if ((ix ws (hm (fall ws) s):Nat):Int)=((ix ws M:Nat):Int) then vI 1 else vI 0)=vI (if hm (fall ws) s=M then 1 else 0)
   by_cases e:hm (fall ws) s=M
   ·rw [if_pos e,if_pos (by rw [e])]
   ·rw [if_neg e,if_neg fun z=>e ((aaC (hb.sZ s) hM).mp (by omega))]
  have hs2:Same H H2:=h1.trans hsm
  refine ⟨by decide,fun p hp=>?_⟩
  have hpD:D≠p:=ne_of_none Xb hp
  refine nH.go (fun i σ H3=>∃ (rs:List Addr) (r:Addr) (v:Option V),σ=[some (.ref a),some (vI (ix ws M)),some (.ref r),some (.ref p),v]∧H3 p=some (.lst (rs.map V.ref))∧rs.length=i+1∧rs[i]? = some r∧(∀ k r,rs[k]? = some r→r≠p∧H3 r=some (.lst ((tab (1001 - 50*k) (wb ws M k)).map vI)))∧Same H H3) ⟨[D],D,none,rfl,upd_same,rfl,rfl,fun k r hr=>?_,hs2.trans (Same.new hp)⟩ ?_ ?_
  ·have hk:k=0:=by
    have:=(List.getElem?_eq_some_iff.mp hr).1
    rw [List.length_singleton] at this
    omega
   subst hk
   cases hr
   exact ⟨hpD,by rw [upd_ne hpD];exact Xb⟩
  ·rintro i σ H3 N hi ⟨rs,r,v,rfl,hp3,hrl,hri,hrs,h3⟩ hN
   have hi':i<19:=hi
   obtain ⟨hrp,Yw⟩:=hrs i r hri
   walk_at "wp"
   refine ⟨_,bA.of Yw,?_⟩
   rw [List.length_map,dw]
   walk_at "wp"
   refine ⟨by omega,by omega,?_⟩
   rw [show (((1001 - 50*i:Nat):Int) - 50).toNat=1001 - 50*(i+1) by omega]
   refine Sx.map (f:=fun x=>vI (wb ws M (i+1) x)) (aD (by omega)) (fun x H4 R hx h4 hR=>?_) (fun e H4 he he4 h4=>?_)
   ·walk_at "wp"
    exact ⟨r,a,ws,1001 - 50*i,x,wb ws M i,rfl,bA.of (h4 _ _ Yw),(h3.trans h4).sq hS,hb.top,fun w hw=>by have:=hb.le w hw;omega,fun H5 h5=>hR _ h5⟩
   ·have hep:e≠p:=fun z=>by rw [z,hp3] at he;cases he
    have DN:=h4 _ _ hp3
    walk_at "wp"
    refine ⟨⟨_,SqL.of DN⟩,_,DN,by rw [List.length_map];exact aD (by omega),hN _ _ ⟨rs++[e],e,_,rfl,?_,by rw [List.length_append,hrl];rfl,?_,fun k2 r2 hr2=>?_,fun b o z=>?_⟩⟩
    ·rw [upd_same,List.map_append];rfl
    ·rw [List.getElem?_append_right (by omega),hrl,Nat.sub_self];rfl
    ·by_cases z:k2<rs.length
     ·rw [List.getElem?_append_left z] at hr2
      obtain ⟨g1,g2⟩:=hrs k2 r2 hr2
      exact ⟨g1,by rw [upd_ne g1];exact h4 _ _ g2⟩
     ·have hk2:k2=i+1:=by
       have:=(List.getElem?_eq_some_iff.mp hr2).1
       rw [List.length_append,List.length_singleton] at this
       omega
      subst hk2
      rw [List.getElem?_append_right (by omega),hrl,Nat.sub_self] at hr2
      cases hr2
      exact ⟨hep,by rw [upd_ne hep,he4];unfold tab;rw [List.map_map];rfl⟩
    ·rw [upd_ne (ne_of_none z (hs2.free hp))]
     exact h4 _ _ (h3 _ _ z)
  ·rintro σ H3 ⟨rs,r,v,rfl,hp3,hrl,hri,hrs,h3⟩
   walk_at "wp"
   exact k p rs H3 (hs2.free hp) hp3 hrl (fun k2 r2 h=>(hrs k2 r2 h).2) h3
theorem zL (T:Txt mg) (F:aM K mg "place_of_ring" fY ["worths","least"]) (bK:gM P w K mg base):pK P w K mg base:=by
 refine F.aZ mY.2 xR.2 mZ (fun vs H Q E h=>?_) (fun f cdv A outer s H vs Q E hr h=>?_) <;> obtain ⟨a,ws,M,rfl,hS,hb,hM,k⟩:=h
 ·rfl
 ·have hu:=hu_of hr
  refine ⟨_,(ao (Cj (i:=2) mZ.nd rfl rfl ⟨rfl,rfl,rfl,rfl,rfl,rfl,rfl,rfl⟩ rfl (o8 (aA bK (hr.mono (by decide)) pass0 (aj (qv 0) ak))) (fun _ _ _ _=>(aY (BL (K:=K) rfl) (qv 0) au (fun _ _=>rfl))) (fun _ _ _ _=>aR (i:=0) (show (["ring","worths","least","leasts"]:List Str).Nodup by decide +kernel) rfl (Or.inl rfl) (.inr rfl)))
   (ao (bM (aN wG (qv 1) (qv 2) (by with_unfolding_all rfl)) (aq (cW)) bF)
   (aq (aU (fU (K:=K) rfl PySem.F.plainAttrs_list PySem.F.slot_list_index PySem.F.type_list_index wH (qv 2) (aj (qv 1) ak)))))),?_⟩
  walk_at "wp"
  refine ⟨a,ws,rfl,hS,hb.two,hb.top,hb.le,fun l out H1 hl hl1 ho K5 hlen hne hall h1=>?_⟩
  have hh:=lB hb (fun p hp=>(ho p hp).2.2) K5 hall
  walk_at "wp"
  refine Rv.go (bA.of hl1) (by rw [List.length_map];exact aD (by omega)) (fun i ys _=>ys=(out.take i).map fun p=>V.int (p.2.headD 0)) (fun _ _=>by simp) (fun i ys H2 H3 D _ h _=>h) (fun i x ys H2 R hx _ hp hsm hR=>?_) fun D ys H2 hD hD2 _ hp hsm=>?_
  ·rw [List.getElem?_map,Option.map_eq_some_iff] at hx
   obtain ⟨q,hq,rfl⟩:=hx
   obtain ⟨_,hq1,R',M',L',hR',hq'⟩:=ho q (List.mem_of_getElem? hq)
   have hne:q.2≠[]:=by
    rw [hq']
    intro z
    have h6:=hR'.head
    cases R' with
    | nil=>cases h6
    | cons x r=>cases z
   have hd:(q.2.map V.int)[0]? = some (.int (q.2.headD 0)):=by
    cases e:q.2 with
    | nil=>exact absurd e hne
    | cons x y=>rfl
   walk_at "wp"
   refine ⟨_,bA.of (hsm _ _ hq1),_,atI_nat (j:=0) hd,hR _ _ (Same.refl _) ?_⟩
   rw [hp,List.take_add_one,hq,List.map_append];rfl
  ·rw [List.length_map,List.take_of_length_le (Nat.le_refl _)] at hp
   have Xb:H2 D=some (.lst ((aW ws).map vI)):=by
    rw [hD2,hp]
    have:(out.map fun p=>V.int (p.2.headD 0))=(out.map fun p=>p.2.headD 0).map V.int:=by rw [List.map_map];rfl
    rw [this,hh,Qt]
   refine Yb (bA.of Xb) ?_
   walk_at "wp"
   rw [if_pos hM]
   refine ⟨⟨_,SqL.of Xb⟩,(aW ws).map (fun d:Nat=>(d:Int)),by rw [Qt];exact Xb,ix ws M,Qy hM,Gy,k _ (h1.trans hsm)⟩
theorem Iw (T:Txt mg) (F:aM K mg "number_at" m5 ["worths","least","place"]) (uq:yq P w K mg base) (nQ:ug P w K mg base) (jC:pK P w K mg base) (aJ:bQ P w K mg base):yr P w K mg base:=by
 refine F.aZ vg.2 Ey.2 cI (fun vs H Q E h=>?_) (fun f cdv A outer s H vs Q E hr h=>?_) <;> obtain ⟨a,ws,M,pl,rfl,hS,hb,hM,hpl,k⟩:=h
 ·rfl
 ·have hu:=hu_of hr
  refine ⟨_,(ao (aP (aA aJ (hr.mono (by decide)) pass0 (aj (qv 0) ak)))
   (ao (aB (i:=3) cI.nd rfl (Or.inl rfl) (aA jC (hr.mono (by decide)) pass0 (aj (qv 0) (aj (qv 1) ak))))
   (ao (bM (aN mH (qv 2) au (nomark _)) (aq (cW)) bF)
   (ao (aB (i:=4) cI.nd rfl (Or.inl rfl) (aA nQ (hr.mono (by decide)) pass0 (aj (qv 0) (aj (qv 3) ak))))
   (ao (aB (i:=5) cI.nd rfl (Or.inl rfl) (qv 2))
   (ao (cB PassesOwn.never rfl (bZ rfl T.cO (aj (mL T.tK) ak)) (aR (i:=6) cI.nd rfl (Or.inl rfl)) (aq (cB PassesOwn.never rfl (yN rfl T.cO (aj (Jy (aN op_eq (qv 6) au (nomark _)) au au) (aj (aL aH (by rfl) T.cQ PySem.boot_len (aj (qv 0) ak)) ak))) (aR (i:=7) cI.nd rfl (Or.inl rfl)) (ao (aB (i:=8) cI.nd rfl (Or.inl rfl) (aY bh (aY bh (qv 4) (qv 6) (fun _ _=>rfl)) (aY bh (qv 0) (qv 7) (fun _ _=>rfl)) (fun _ _=>rfl)))
   (ao (bM (aN mH (qv 5) (qv 8) (nomark _)) (aq (aU (aA uq (hr.mono (by decide)) pass0 (aj (qv 0) (aj (qv 7) (aj (qv 4) (aj (qv 6) (aj (qv 5) ak)))))))) bF)
   (aq (yR (i:=5) cI.nd rfl (Or.inl rfl) (qv 8) K6)))))))
   (aq (cW)))))))),?_⟩
  have hb2:=hb.two
  have ab8:=hb.top
  walk_at "wp"
  refine ⟨a,ws,rfl,hS,hb.two,hb.top,hb.le,?_⟩
  refine ⟨a,ws,M,rfl,hS,hb,hM,fun H1 h1=>?_⟩
  dsimp only
  rw [if_neg (show ¬ ((pl:Int)<0) by omega)]
  refine ⟨a,ws,M,rfl,h1.sq hS,hb,hM,fun p rs H2 hp hp2 hrl hrs h2=>?_⟩
  have hs2:Same H H2:=h1.trans h2
  have hS2:=hs2.sq hS
  refine nH.go (fun i σ H3=>H3=H2∧∃ (lo:Nat) (v6 v7 v8:Option V),σ=[some (.ref a),some (vI M),some (vI pl),some (vI (ix ws M)),some (.ref p),some (.int (pl - cnt ws lo M)),v6,v7,v8]∧lo=(if i=0 then 0 else 1)*ws.length ^ i∧cnt ws lo M≤pl) ⟨rfl,0,none,none,none,by rw [VP,Int.natCast_zero,Int.sub_zero],by rw [if_pos rfl,Nat.zero_mul],Nat.zero_le _⟩ ?_ ?_
  ·rintro i σ H3 N hi ⟨rfl,lo,v6,v7,v8,rfl,hlo,Iu⟩ hN
   obtain ⟨r,hr⟩:∃ r,rs[i]? = some r:=⟨_,List.getElem?_eq_getElem (by omega)⟩
   have hr2:=hrs i r hr
   have hat:atI (rs.map V.ref) (i:Int)=some (.ref r):=atI_nat (by rw [List.getElem?_map,hr];rfl)
   have go:∀ s:Nat,s=(if i=0 then 0 else 1)→s≤1∧(1≤s∨i=0):=fun s h=>by split at h <;> omega
   walk_at "wp"
   refine ite2 (fun c=>?_) (fun c=>?_)
   ·refine ⟨_,hS2,?_⟩
    rw [List.length_map]
    refine ⟨by omega,?_⟩
    rw [show ((ws.length:Int) - 0).toNat=ws.length - 0 by omega]
    refine nH.go (fun j σ H4=>H4=H3∧∃ (v7 v8:Option V),σ=[some (.ref a),some (vI M),some (vI pl),some (vI (ix ws M)),some (.ref p),some (.int (pl - cnt ws (j*ws.length ^ i) M)),some (.int i),v7,v8]∧cnt ws (j*ws.length ^ i) M≤pl) ⟨rfl,v7,v8,by rw [hlo,if_pos (show i=0 by omega)],by rw [Nat.zero_mul];exact Nat.zero_le _⟩ ?_ ?_
    ·rintro j σ H4 N2 hj ⟨rfl,v7,v8,rfl,hj2⟩ Sh
     have aaU:=JW hb M i (j:=j) (by omega) (by omega)
     have hwl:=Gg hb.le j
     walk_at "wp"
     refine ⟨_,bA.of hp2,_,hat,_,hS2,_,mO (d:=j) (by omega),?_⟩
     walk_at "wp"
     refine ⟨_,bA.of hr2,_,nM (by omega),?_⟩
     walk_at "wp"
     refine ite2 (fun c2=>?_) (fun c2=>?_)
     ·exact ⟨a,p,ws,rs,M,i,j,pl,rfl,hS2,hb,hp2,hrl,hrs,by omega,by omega,by omega,hj2,by omega,fun n h1 h2 h3=>k n _ h1 h2 h3 hs2⟩
     ·refine Sh _ _ ⟨rfl,some (.int j),some (vI (wb ws M i (wt ws j))),?_,?_⟩
      ·rw [aaU]
       rw [show (pl:Int) - (cnt ws (j*ws.length ^ i) M:Int) - (wb ws M i (wt ws j):Int)=(pl:Int) - ((cnt ws (j*ws.length ^ i) M+wb ws M i (wt ws j):Nat):Int) by omega]
      ·omega
    ·rintro σ H4 ⟨rfl,v7,v8,rfl,hj2⟩
     refine hN _ _ ⟨rfl,ws.length ^ (i+1),some (.int i),v7,v8,?_,by rw [if_neg (by omega),Nat.one_mul],?_⟩
     ·rw [Nat.pow_succ,Nat.mul_comm (ws.length ^ i)];rfl
     ·rw [Nat.pow_succ,Nat.mul_comm (ws.length ^ i)]
      exact hj2
   ·refine ⟨_,hS2,?_⟩
    rw [List.length_map]
    refine ⟨by omega,?_⟩
    rw [show ((ws.length:Int) - 1).toNat=ws.length - 1 by omega]
    refine nH.go (fun j σ H4=>H4=H3∧∃ (v7 v8:Option V),σ=[some (.ref a),some (vI M),some (vI pl),some (vI (ix ws M)),some (.ref p),some (.int (pl - cnt ws ((1+j)*ws.length ^ i) M)),some (.int i),v7,v8]∧cnt ws ((1+j)*ws.length ^ i) M≤pl) ⟨rfl,v7,v8,by rw [hlo,if_neg (show ¬ i=0 by omega)],by rw [hlo,if_neg (show ¬ i=0 by omega)] at Iu;exact Iu⟩ ?_ ?_
    ·rintro j σ H4 N2 hj ⟨rfl,v7,v8,rfl,hj2⟩ Sh
     have aaU:=JW hb M i (j:=(1+j)) (by omega) (by omega)
     have hwl:=Gg hb.le (1+j)
     walk_at "wp"
     refine ⟨_,bA.of hp2,_,hat,_,hS2,_,mO (d:=(1+j)) (by omega),?_⟩
     walk_at "wp"
     refine ⟨_,bA.of hr2,_,nM (by omega),?_⟩
     walk_at "wp"
     refine ite2 (fun c2=>?_) (fun c2=>?_)
     ·exact ⟨a,p,ws,rs,M,i,(1+j),pl,rfl,hS2,hb,hp2,hrl,hrs,by omega,by omega,by omega,hj2,by omega,fun n h1 h2 h3=>k n _ h1 h2 h3 hs2⟩
     ·refine Sh _ _ ⟨rfl,some (.int (1+j)),some (vI (wb ws M i (wt ws (1+j)))),?_,?_⟩
      ·rw [show 1+(j+1)=1+j+1 by omega,aaU]
       rw [show (pl:Int) - (cnt ws ((1+j)*ws.length ^ i) M:Int) - (wb ws M i (wt ws (1+j)):Int)=(pl:Int) - ((cnt ws ((1+j)*ws.length ^ i) M+wb ws M i (wt ws (1+j)):Nat):Int) by omega]
      ·rw [show 1+(j+1)=1+j+1 by omega];omega
    ·rintro σ H4 ⟨rfl,v7,v8,rfl,hj2⟩
     refine hN _ _ ⟨rfl,ws.length ^ (i+1),some (.int i),v7,v8,?_,by rw [if_neg (by omega),Nat.one_mul],?_⟩
     ·rw [show 1+(ws.length - 1)=ws.length by omega,Nat.pow_succ,Nat.mul_comm (ws.length ^ i)]
     ·rw [Nat.pow_succ,Nat.mul_comm (ws.length ^ i)]
      rw [show 1+(ws.length - 1)=ws.length by omega] at hj2;exact hj2
  ·rintro σ H3 ⟨rfl,lo,v6,v7,v8,rfl,hlo,Iu⟩
   rw [if_neg (by decide),Nat.one_mul] at hlo
   rw [hlo] at Iu
   omega
theorem zM (T:Txt mg) (F:MethAt K "House" "book_of" "House.book_of" fZ ["self","name"]) (aG:ClsAt K mg "House") (aQ:pB K "House" "books") :bL P w K mg base:=by
 refine F.aZ m6.2 xT.2 xU (fun vs H Q E h=>?_) (fun f cdv A outer s H vs Q E hr h=>?_) <;> obtain ⟨h,dx,d,b,kvs,nm,rfl,hh,hd,hv,k⟩:=h
 ·rfl
 ·have hu:=hu_of hr
  refine ⟨_,(ao (bM (o7 hu (qv 1) (dg (K:=K) rfl (qv 0))) (aq (cW)) bF)
   (aq (aU (bD hu (dg (K:=K) rfl (qv 0)) (qv 1) (fun _ _=>rfl))))),?_⟩
  have hg:DGet H d (.str nm) (some (.ref b)):=by
   have:=DGet.k (k:=Sum.inr nm) hd
   rw [hv] at this
   exact this
  walk_at "wp"
  refine ⟨_,_,_,hh,aG.cl,aQ,_,by rfl,?_⟩
  walk_at "wp"
  refine ⟨_,hg,?_⟩
  walk_at "wp"
  refine ⟨_,_,_,hh,aG.cl,aQ,_,by rfl,?_⟩
  walk_at "wp"
  exact ⟨_,hg,k⟩
theorem vY (T:Txt mg) (F:MethAt K "House" "number_at" "House.number_at" dY ["self","name","least","place"]) (bJ:ClsAt K mg "Book") (aG:ClsAt K mg "House") (aK:pB K "Book" "worths") (ur:yr P w K mg base) (aF:bL P w K mg base):lM P w K mg base:=by
 refine F.aZ jQ.2 uT.2 uU (fun vs H Q E h=>?_) (fun f cdv A outer s H vs Q E hr h=>?_) <;> obtain ⟨h,nm,ws,n,rfl,⟨dx,d,b,bx,wl,tl,kvs,hh,hd,hv,hbk,hwl⟩,hb,hl,k⟩:=h
 ·rfl
 ·have hu:=hu_of hr
  refine ⟨_,(aq (aU (aA (Good.alias ur T.uR) (hr.mono (by decide)) pass0 (aj (dg (K:=K) rfl (cX (K:=K) (pl:=_) rfl aG aF (hr.mono (by decide)) pass0 (qv 0) (aj (qv 1) ak))) (aj (qv 2) (aj (qv 3) ak)))))),?_⟩
  walk_at "wp"
  refine ⟨_,_,hh,by rfl,h,dx,d,b,kvs,nm,rfl,hh,hd,hv,?_⟩
  walk_at "wp"
  refine ⟨_,_,_,hbk,bJ.cl,aK,_,by rfl,?_⟩
  walk_at "wp"
  refine ⟨wl,ws,_,_,rfl,bA.of hwl,hb,hb.sZ n,Mh (Hy hb.two (show n+1≤_ by omega)) rfl,fun n' H' hn' e1 e2 s=>?_⟩
  have en:n' = n:=V8 e1 rfl e2
  subst en
  exact k _ s
theorem KY (T:Txt mg) (F:aM K mg "add_each" qy ["tally","ahead","worths"]) :Aa P w K mg base:=by
 refine F.aZ xV.2 Il.2 xW (fun vs H Q E h=>?_) (fun f cdv A outer s H vs Q E hr h=>?_) <;> obtain ⟨l,a,n,ah,F,us,rfl,hl,hS,hla,hu',k⟩:=h
 ·rfl
 ·have hu:=hu_of hr
  refine ⟨_,(aq (cB PassesOwn.never rfl (o8 (qv 2)) (aR (i:=3) xW.nd rfl (Or.inl rfl)) (aq (Bp (qv 0) (aO op_add (qv 1) (qv 3)) (uK (K:=K) rfl) au sJ set_list)))),?_⟩
  walk_at "wp"
  refine pW.at (xs:=us.map vI) hS (fun j σ H4=>∃ v,σ=[some (.ref l),some (vI ah),some (.ref a),v]∧H4 l=some (.lst ((tab n (fun s=>F s+lq (us.take j) ah 1 s)).map vI))∧∀ b o,b≠l→H b=some o→H4 b=some o) ⟨none,rfl,?_,fun b o _ e=>e⟩ ?_ ?_ ?_
  ·rw [hl,List.take_zero]
   exact cM fun s _=>by rw [JC];rfl
  ·rintro j σ H4 _ ⟨_,_,_,h4⟩ o e
   exact h4 a o hla.symm e
  ·rintro j x σ H4 N2 hx ⟨v3,rfl,DN,h4⟩ Sh
   rw [List.getElem?_map,Option.map_eq_some_iff] at hx
   obtain ⟨w,hw',rfl⟩:=hx
   have hwl:=hu' w (List.mem_of_getElem? hw')
   walk_at "wp"
   rw [show (ah:Int)+(w:Int)=((ah+w:Nat):Int) by omega]
   refine ⟨_,SqL.of DN,_,nM hwl,?_⟩
   walk_at "wp"
   refine ⟨_,DN,ah+w,jU (by rw [List.length_map,dw];omega),Sh _ _ ⟨_,rfl,?_,fun b o hb e=>?_⟩⟩
   ·rw [upd_same]
    rw [show (V.int ((F (ah+w)+lq (us.take j) ah 1 (ah+w):Nat)+(1:Int)))=vI (F (ah+w)+lq (us.take j) ah 1 (ah+w)+1) by rw [vI];congr 1]
    rw [←List.map_set,Ht]
    refine cM (fun s _=>?_)
    rw [Gq hw']
    by_cases e:s=ah+w
    ·rw [if_pos e,if_pos e,e];omega
    ·rw [if_neg e,if_neg e];omega
   ·rw [upd_ne hb];exact h4 _ _ hb e
  ·rintro σ H4 ⟨v3,rfl,DN,h4⟩
   walk_at "wp"
   rw [List.length_map,List.take_of_length_le (Nat.le_refl _)] at DN
   exact k H4 DN h4
theorem Fq (T:Txt mg) (F:aM K mg "lengthened" j6 ["tally","worths"]) :vA P w K mg base:=by
 refine F.aZ tQ.2 Di.2 eU (fun vs H Q E h=>?_) (fun f cdv A outer s H vs Q E hr h=>?_) <;> obtain ⟨t,a,tl,ws,rfl,ht,hS,hl,hw,k⟩:=h
 ·rfl
 ·have hu:=hu_of hr
  refine ⟨_,(ao (aB (i:=2) eU.nd rfl (Or.inl rfl) (aO G7 (cu (aj au ak)) (aO op_add (aL aH (by rfl) T.cQ PySem.boot_len (aj (qv 0) ak)) (mL T.jW))))
   (ao (cB PassesOwn.never rfl (Bm rfl T.mV (aj (qv 0) ak)) (Ho (K:=K) rfl rfl (ju (aR (i:=3) eU.nd rfl (Or.inl rfl)) (ju (aR (i:=4) eU.nd rfl (Or.inl rfl)) Bo))) (aq (bM (aN uY (qv 4) au (nomark _)) (aq (cB PassesOwn.never rfl (o8 (qv 1)) (aR (i:=5) eU.nd rfl (Or.inl rfl)) (aq (Bp (qv 2) (aO op_add (qv 3) (qv 5)) (uK (K:=K) rfl) (qv 4) sJ set_list)))) bF)))
   (aq (aU (qv 2))))),?_⟩
  walk_at "wp"
  refine ⟨by decide,fun z hz=>⟨_,bA.of (Same.new hz _ _ ht),?_⟩⟩
  rw [List.length_map,show ((tl.length:Int)+50)=((tl.length+50:Nat):Int) by omega]
  generalize hn:tl.length+50=n
  refine ⟨_,upd_same,by omega,by omega,?_,fun p hp=>?_⟩
  ·rw [Int.toNat_natCast]
   exact Nat.le_of_lt (aD (by simp only [List.length_cons,List.length_nil];omega))
  rw [Int.toNat_natCast,JB]
  have hp':H p=none:=(Same.new hz).free hp
  have hsz:Same H (upd (upd H z (.lst [.int 0])) p (.lst ((tab n fun _=>0).map vI))):=(Same.new hz).trans (Same.new hp)
  refine Lr.go (xs:=tl.map vI) (SqL.of (hsz _ _ ht)) (fun i σ H2=>i≤tl.length∧∃ v1 v2 v3,σ=[some (.ref t),some (.ref a),some (.ref p),v1,v2,v3]∧H2 p=some (.lst ((tab n (yU tl ws i)).map vI))∧Same H H2) ⟨by omega,none,none,none,rfl,?_,hsz⟩ ?_ ?_ ?_
  ·rw [upd_same,yS (G:=yU tl ws 0) (fun s _=>(Ry tl ws s).symm)]
  ·rintro i σ H2 _ ⟨_,_,_,_,_,_,h2⟩ o e
   rw [hsz _ _ ht] at e
   cases e
   exact h2 _ _ ht
  ·rintro i x q σ H2 N hx ⟨hi,v1,v2,v3,rfl,hp2,h2⟩ hq hN
   rw [List.getElem?_map,Option.map_eq_some_iff] at hx
   obtain ⟨m,hm,rfl⟩:=hx
   have hi':i<tl.length:=(List.getElem?_eq_some_iff.mp hm).1
   have hmd:tl.getD i 0=m:=by rw [List.getD_eq_getElem?_getD,hm];rfl
   have hpq:p≠q:=ne_of_none hp2 hq
   have h3:Same H (upd H2 q (.tup [.int (i:Int),vI m])):=h2.trans (Same.new hq)
   have hp3:upd H2 q (.tup [.int (i:Int),vI m]) p=some (.lst ((tab n (yU tl ws i)).map vI)):=by rw [upd_ne hpq];exact hp2
   walk_at "wp"
   refine ⟨_,SqT.of upd_same,by rfl,?_⟩
   walk_at "wp"
   generalize upd H2 q (.tup [.int (i:Int),vI m])=H3 at h3 hp3
   refine ite2 (fun c=>?_) (fun c=>?_)
   ·refine pW.base (xs:=ws.map vI) hS (fun j σ H4=>∃ v3,σ=[some (.ref t),some (.ref a),some (.ref p),some (.int i),some (vI m),v3]∧H4 p=some (.lst ((tab n (fun s=>yU tl ws i s+lq (ws.take j) i m s)).map vI))∧Same H H4) ⟨_,rfl,?_,h3⟩ ?_ ?_ ?_
    ·rw [hp3,List.take_zero]
     exact cM fun s _=>by rw [JC];rfl
    ·rintro j σ H4 _ ⟨_,_,_,h4⟩
     exact h4
    ·rintro j x σ H4 N2 hx ⟨v3,rfl,DN,h4⟩ Sh
     rw [List.getElem?_map,Option.map_eq_some_iff] at hx
     obtain ⟨w,hw',rfl⟩:=hx
     have hwl:=hw w (List.mem_of_getElem? hw')
     walk_at "wp"
     rw [show (i:Int)+(w:Int)=((i+w:Nat):Int) by omega]
     refine ⟨_,SqL.of DN,_,nM (by omega),?_⟩
     walk_at "wp"
     refine ⟨_,DN,i+w,jU (by rw [List.length_map,dw];omega),Sh _ _ ⟨_,rfl,?_,fun b o e=>?_⟩⟩
     ·rw [upd_same]
      rw [show (V.int ((yU tl ws i (i+w)+lq (ws.take j) i m (i+w):Nat)+(m:Int)))=vI (yU tl ws i (i+w)+lq (ws.take j) i m (i+w)+m) by rw [vI];congr 1]
      rw [←List.map_set,Ht]
      refine cM (fun s _=>?_)
      rw [Gq hw']
      by_cases e:s=i+w
      ·rw [if_pos e,if_pos e,e];omega
      ·rw [if_neg e,if_neg e];omega
     ·rw [upd_ne (ne_of_none e hp')];exact h4 _ _ e
    ·rintro σ H4 ⟨v3,rfl,DN,h4⟩
     refine hN _ _ ⟨by omega,_,_,_,rfl,?_,h4⟩
     rw [DN,List.length_map,List.take_of_length_le (Nat.le_refl _)]
     exact cM (fun s _=>by rw [Gp,hmd])
   ·refine hN _ _ ⟨by omega,_,_,_,rfl,?_,h3⟩
    rw [hp3]
    exact cM (fun s _=>by rw [Gp,hmd,show m=0 by omega,Rz];rfl)
  ·rintro σ H2 ⟨_,v1,v2,v3,rfl,hp2,h2⟩
   walk_at "wp"
   refine k p H2 hp' ?_ h2
   rw [hp2,List.length_map,hn]
   exact cM (fun s _=>Vo tl ws s)
theorem DR (T:Txt mg) (F:aM K mg "tally_below" jl ["worths","limit"]) (lV:Aa P w K mg base) (qJ:vA P w K mg base) (dM:lG P w K mg base):uh P w K mg base:=by
 refine F.aZ rQ.2 Av.2 cD (fun vs H Q E h=>?_) (fun f cdv A outer s H vs Q E hr h=>?_) <;> obtain ⟨a,ws,lim,rfl,hS,hb,hlim,k⟩:=h
 ·rfl
 ·have hu:=hu_of hr
  refine ⟨_,(ao (aB (i:=2) cD.nd rfl (Or.inl rfl) (aA dM (hr.mono (by decide)) pass0 (aj (qv 1) (aj (aL aH (by rfl) T.cQ PySem.boot_len (aj (qv 0) ak)) ak))))
   (ao (aB (i:=3) cD.nd rfl (Or.inl rfl) (aO G7 (cu (aj au ak)) (aO op_add (mL T.jW) au)))
   (ao (aP (aA lV (hr.mono (by decide)) pass0 (aj (qv 3) (aj au (aj (gP (Ls (K:=K) rfl) (qv 0) (gO au) (gO (aY bh (qv 2) au (fun _ _=>rfl)))) ak)))))
   (ao (aB (i:=4) cD.nd rfl (Or.inl rfl) (aY bh (qv 0) (aY bh (qv 2) au (fun _ _=>rfl)) (fun _ _=>rfl)))
   (ao (cB PassesOwn.never rfl (o8 (gP FW (qv 2) (gO au) pZ)) (aR (i:=5) cD.nd rfl (Or.inl rfl)) (ao (aB (i:=3) cD.nd rfl (Or.inl rfl) (aA qJ (hr.mono (by decide)) pass0 (aj (qv 3) (aj (qv 0) ak))))
   (ao (aP (aA lV (hr.mono (by decide)) pass0 (aj (qv 3) (aj au (aj (gP (Ls (K:=K) rfl) (qv 0) (gO au) pZ) ak)))))
   (ao (aP (aA lV (hr.mono (by decide)) pass0 (aj (qv 3) (aj (qv 4) (aj (gP (Ls (K:=K) rfl) (qv 0) pZ (gO (qv 5))) ak)))))
   (aq (yR (i:=4) cD.nd rfl (Or.inl rfl) (aY bh (qv 0) (qv 5) (fun _ _=>rfl)) sJ))))))
   (ao (bM (aN uY (qv 1) au (nomark _)) (aq (Bp (qv 3) (aY bh (qv 0) au (fun _ _=>rfl)) (uK (K:=K) rfl) au sJ set_list)) bF)
   (aq (aU (qv 3))))))))),?_⟩
  have h2:=hb.two
  have aci:lim<ws.length ^ 1001:=Nat.lt_of_le_of_lt hlim (Nat.pow_lt_pow_right (by omega) (by decide))
  have acj:lim<ws.length ^ 21:=Nat.lt_of_le_of_lt hlim (Nat.pow_lt_pow_right (by omega) (by decide))
  walk_at "wq"
  refine ⟨_,hS,?_⟩
  rw [List.length_map]
  refine ⟨lim,ws.length,rfl,hb.two,hb.top,aci,fun rp H1 hr hr1 h1=>?_⟩
  have hnum:num ws.length (fl ws.length lim).reverse=lim:=by unfold num;rw [List.reverse_reverse];exact aav h2 lim
  have hrl:(fl ws.length lim).reverse.length≤21:=by rw [List.length_reverse];exact BZ h2 21 lim (by decide) acj
  have hrd:∀ d∈(fl ws.length lim).reverse,d<ws.length:=fun d hd=>Vb h2 lim d (List.mem_reverse.mp hd)
  have hrn:(fl ws.length lim).reverse≠[]:=by simpa using Pr
  have hrt:(fl ws.length lim).reverse.length=1∨(fl ws.length lim).reverse[0]? ≠ some 0:=by
   rcases aaw h2 lim with z | z
   ·exact .inl (by rw [List.length_reverse];exact z)
   ·exact .inr (by rw [←List.head?_eq_getElem?,List.head?_reverse];exact z)
  generalize (fl ws.length lim).reverse=rs at hr1 hnum hrl hrd hrn hrt
  have hr0:1≤rs.length:=List.length_pos_iff.mpr hrn
  obtain ⟨d0,hd0⟩:∃ d0,rs[0]? = some d0:=⟨_,List.getElem?_eq_getElem (by omega)⟩
  have acn:=hrd d0 (List.mem_of_getElem? hd0)
  have hpos:∀ j,1≤j→j≤rs.length→2≤rs.length→1≤num ws.length (rs.take j):=fun j hj1 hj2 hl=>Qp h2 hd0 (by
   rcases hrt with z | z
   ·omega
   ·have:d0≠0:=fun e=>z (by rw [hd0,e])
    omega) j hj1 hj2
  have hN1:num ws.length (rs.take 1)=d0:=by
   rw [Cd hd0];show 0*ws.length+d0=d0;rw [Nat.zero_mul,Nat.zero_add]
  walk_at "wq"
  refine ⟨by decide,fun z hz=>⟨_,upd_same,by decide,fun p hp=>?_⟩⟩
  rw [JB]
  have h1p:Same H1 (upd (upd H1 z (.lst [.int 0])) p (.lst ((tab 51 (fun _=>0)).map vI))):=(Same.new hz).trans (Same.new hp)
  have Zu:H p=none:=h1.free ((Same.new hz).free hp)
  have hpr:rp≠p:=ne_of_none (Same.new (o:=.lst [.int 0]) hz _ _ hr1) hp
  have hpp:upd (upd H1 z (.lst [.int 0])) p (.lst ((tab 51 (fun _=>0)).map vI)) p=some (.lst ((tab 51 (fun _=>0)).map vI)):=upd_same
  generalize upd (upd H1 z (.lst [.int 0])) p (.lst ((tab 51 (fun _=>0)).map vI))=H2 at h1p hpp
  walk_at "wp"
  refine ⟨_,bA.of (h1p _ _ hr1),vI d0,atI_nat (j:=0) (by rw [List.getElem?_map,hd0];rfl),?_⟩
  walk_at "wq"
  refine Hs ((h1.trans h1p).sq hS) ?_ (fun u H3 hu hu3 h3=>?_)
  ·exact Gx (by rw [List.length_map];omega)
  rw [X7 (by rw [List.length_map];omega) (by rw [List.length_map];omega),←List.map_tail,←List.map_take] at hu3
  have hup:p≠u:=ne_of_none hpp hu
  refine ⟨p,u,51,0,fun _=>0,ws.tail.take (d0 - 1),rfl,h3 _ _ hpp,hu3,hup,fun x hx=>by have:=hb.le x (List.mem_of_mem_tail (List.mem_of_mem_take hx));omega,fun H4 DN h4=>?_⟩
  have Yv:∀ b o,b≠p→H2 b=some o→H4 b=some o:=fun b o hb' e=>h4 b o hb' (h3 _ _ e)
  have Iv:Same H H4:=fun b o e=>Yv b o (ne_of_none e Zu) (h1p _ _ (h1 _ _ e))
  have hr4:H4 rp=some (.lst (rs.map vI)):=Yv _ _ hpr (h1p _ _ hr1)
  walk_at "wq"
  refine ⟨_,bA.of hr4,vI d0,atI_nat (j:=0) (by rw [List.getElem?_map,hd0];rfl),?_⟩
  walk_at "wq"
  refine ⟨_,Iv.sq hS,_,mO acn,_,SqL.of hr4,fun q hq=>?_⟩
  rw [Qs (by rw [List.length_map];omega),←List.map_tail,←List.drop_one]
  have hpq:p≠q:=ne_of_none DN hq
  refine pW.at (xs:=(rs.drop 1).map vI) (bA.of upd_same) (fun i σ H5=>i+1≤rs.length∧∃ (t:Addr) (v:Option V),σ=[some (.ref a),some (vI lim),some (.ref rp),some (.ref t),some (vI (fall ws (num ws.length (rs.take (i+1))))),v]∧H t=none∧t≠q∧H5 t=some (.lst ((tab (50*(i+1)+1) (cin ws 1 (num ws.length (rs.take (i+1)) - 1))).map vI))∧H5 q=some (.lst ((rs.drop 1).map vI))∧Same H H5) ⟨by omega,p,none,?_,Zu,hpq,?_,upd_same,Iv.trans (Same.new hq)⟩ ?_ ?_ ?_
  ·rw [hN1,mQ acn]
  ·rw [upd_ne hpq,DN]
   refine cM fun s _=>?_
   rw [hN1,VJ h2 (by omega)];exact Nat.zero_add _
  ·rintro i σ H5 _ ⟨_,t,v,rfl,_,_,_,hq5,_⟩ o e
   rw [upd_same] at e;cases e;exact hq5
  ·rintro i x σ H5 N hx ⟨hi,t,v,rfl,htH,htq,Yx,hq5,h5⟩ hN
   rw [List.getElem?_map,Option.map_eq_some_iff] at hx
   obtain ⟨d,hd,rfl⟩:=hx
   rw [List.getElem?_drop] at hd
   have hil:i+1<rs.length:=by have:=(List.getElem?_eq_some_iff.mp hd).1;omega
   have hdb:=hrd d (List.mem_of_getElem? hd)
   rw [Nat.add_comm 1 i] at hd
   have hNn:=Cd (b:=ws.length) hd
   have hNp:=hpos (i+1) (by omega) (by omega) (by omega)
   have hNl:=Qq h2 hrd (i+1) (by omega)
   generalize hNe:num ws.length (rs.take (i+1))=n at hNn hNp hNl Yx
   have hfn:=mR h2 hb.le (n:=i+1) (x:=n) (by omega) hNl
   walk_at "wq"
   refine ⟨t,a,_,ws,rfl,Yx,h5.sq hS,by rw [dw];omega,hb.le,fun t2 H6 RP h62 h6=>?_⟩
   rw [dw] at h62
   have aaX:t2≠q:=fun e=>by rw [e,hq5] at RP;cases RP
   walk_at "wq"
   refine Hs (h6.sq (h5.sq hS)) ?_ (fun u1 H7 hu1 acq h7=>?_)
   ·exact Gx (by rw [List.length_map];omega)
   rw [Qs (by rw [List.length_map];omega),←List.map_tail] at acq
   refine ⟨t2,u1,_,0,_,ws.tail,rfl,h7 _ _ h62,acq,ne_of_none h62 hu1,fun x hx=>by have:=hb.le x (List.mem_of_mem_tail hx);omega,fun H8 h82 h8=>?_⟩
   have aaY:H t2=none:=h5.free RP
   have hs8:Same H H8:=fun b o e=>h8 b o (ne_of_none e aaY) (h7 _ _ (h6 _ _ (h5 _ _ e)))
   walk_at "wq"
   refine Hs (hs8.sq hS) ?_ (fun u2 H9 hu2 acr h9=>?_)
   ·rw [HT.mJ,List.length_map];omega
   rw [Lq (by rw [List.length_map];omega),←List.map_take] at acr
   refine ⟨t2,u2,_,fall ws n,_,ws.take d,rfl,h9 _ _ h82,acr,ne_of_none h82 hu2,fun x hx=>by have:=hb.le x (List.mem_of_mem_take hx);omega,fun H10 adJ h10=>?_⟩
   have acs:Same H H10:=fun b o e=>h10 b o (ne_of_none e aaY) (h9 _ _ (hs8 _ _ e))
   walk_at "wq"
   refine ⟨_,acs.sq hS,_,mO hdb,?_⟩
   walk_at "wq"
   refine hN _ _ ⟨by omega,t2,some (vI d),?_,aaY,aaX,?_,h10 _ _ aaX.symm (h9 _ _ (h8 _ _ aaX.symm (h7 _ _ (h6 _ _ hq5)))),acs⟩
   ·rw [hNn,o9 h2 hNp hdb];rfl
   ·rw [adJ,show 50*(i+1+1)+1=50*(i+1)+1+50 by omega]
    refine cM fun s _=>?_
    rw [hNn,VL h2 hNp (by omega)]
    congr 2
    refine Vp fun j _=>?_
    rw [Vn]
    by_cases e:j<50*(i+1)+1
    ·rw [if_pos e]
    ·rw [if_neg e,Qj hb (n:=i+1) (by omega) (by omega) (by omega)]
  ·rintro σ H5 ⟨_,t,v,rfl,htH,htq,Yx,hq5,h5⟩
   have e1:rs.take (((rs.drop 1).map vI).length+1)=rs:=List.take_of_length_le (by rw [List.length_map,List.length_drop];omega)
   have e2:((rs.drop 1).map vI).length+1=rs.length:=by rw [List.length_map,List.length_drop];omega
   rw [e1,hnum,e2] at Yx
   have hall:∀ n,n<lim→fall ws n<50*rs.length+1:=fun n hn=>by
    have h8:=Qq h2 hrd rs.length (Nat.le_refl _)
    rw [List.take_of_length_le (Nat.le_refl _),hnum] at h8
    have:=mR h2 hb.le (n:=rs.length) (x:=n) hr0 (by omega)
    omega
   walk_at "wq"
   refine ite2 (fun c=>?_) (fun c=>?_)
   ·have hw0:=Gg hb.le 0
    refine ⟨_,h5.sq hS,_,mO (d:=0) (by omega),?_⟩
    walk_at "wq"
    refine ⟨_,SqL.of Yx,_,nM (by omega),?_⟩
    walk_at "wq"
    refine ⟨_,Yx,wt ws 0,jU (by rw [List.length_map,dw];omega),k t _ _ htH ?_ (by omega) hall (fun b o e=>by rw [upd_ne (ne_of_none e htH)];exact h5 _ _ e)⟩
    rw [upd_same]
    rw [show (V.int ((cin ws 1 (lim - 1) (wt ws 0):Nat)+(1:Int)))=vI (cin ws 1 (lim - 1) (wt ws 0)+1) by rw [vI];congr 1]
    rw [←List.map_set,Ht]
    refine cM (fun s _=>?_)
    rw [Qk h2,if_pos (c:=0<lim) (by omega)]
    by_cases e:s=wt ws 0
    ·rw [if_pos e,if_pos e,e];omega
    ·rw [if_neg e,if_neg e];omega
   ·refine k t _ _ htH ?_ (by omega) hall h5
    rw [Yx]
    refine cM (fun s _=>?_)
    rw [Qk h2,if_neg (c:=0<lim) (by omega)];omega
theorem DW (T:Txt mg) (F:aM K mg "check_limit" jm ["limit","most"]) :lO P w K mg base:=by
 refine F.aZ rR.2 Aw.2 Ax (fun vs H Q E h=>?_) (fun f cdv A outer s H vs Q E hr h=>?_) <;> obtain ⟨l,m,rfl,h1,k⟩:=h
 ·rfl
 ·have hu:=hu_of hr
  refine ⟨_,(aq (bM (wJ (aN mH (qv 0) au (nomark _)) (qd (aN uY (qv 0) (qv 1) (nomark _)))).qt (aq (cW)) bF)),?_⟩
  walk_at "wp"
  rw [if_neg (by omega),if_neg (by omega)]
  exact k
theorem vZ (T:Txt mg) (F:aM K mg "first_uncounted" dZ ["base"]) :gB P w K mg base:=by
 refine F.aZ jR.2 uV.2 uW (fun vs H Q E h=>?_) (fun f cdv A outer s H vs Q E hr h=>?_) <;> obtain ⟨b,rfl,h1,h2,k⟩:=h
 ·rfl
 ·have hu:=hu_of hr
  refine ⟨_,(aq (aU (aO ZX (qv 0) au))),?_⟩
  walk_at "wp"
  refine ⟨⟨by decide,by omega,by omega⟩,?_⟩
  rw [show (V.int ((b:Int) ^ 20))=vI (b ^ 20) by rw [vI,Int.natCast_pow]]
  exact k
theorem Bh (T:Txt mg) (F:aM K mg "counts_below" iw ["worths","limit"]) (nR:uh P w K mg base) (dU:lK P w K mg base) (bK:gM P w K mg base) (dW:lO P w K mg base) (cA:gB P w K mg base) (aJ:bQ P w K mg base):jB P w K mg base:=by
 refine F.aZ pI.2 zE.2 dh (fun vs H Q E h=>?_) (fun f cdv A outer s H vs Q E hr h=>?_) <;> obtain ⟨a,ws,lim,rfl,hS,hb,hlim,k⟩:=h
 ·rfl
 ·have hu:=hu_of hr
  refine ⟨_,(ao (aP (aA aJ (hr.mono (by decide)) pass0 (aj (qv 0) ak)))
   (ao (aP (aA dW (hr.mono (by decide)) pass0 (aj (qv 1) (aj (aA cA (hr.mono (by decide)) pass0 (aj (aL aH (by rfl) T.cQ PySem.boot_len (aj (qv 0) ak)) ak)) ak))))
   (ao (aB (i:=2) dh.nd rfl (Or.inl rfl) (aO G7 (cu (aj au ak)) (aL aH (by rfl) T.cQ PySem.boot_len (aj (aA bK (hr.mono (by decide)) pass0 (aj (qv 0) ak)) ak))))
   (ao (aB (i:=3) dh.nd rfl (Or.inl rfl) (aA dU (hr.mono (by decide)) pass0 (aj (qv 0) ak)))
   (ao (cB PassesOwn.never rfl (Bm rfl T.mV (aj (aA nR (hr.mono (by decide)) pass0 (aj (qv 0) (aj (qv 1) ak))) ak)) (Ho (K:=K) rfl rfl (ju (aR (i:=4) dh.nd rfl (Or.inl rfl)) (ju (aR (i:=5) dh.nd rfl (Or.inl rfl)) Bo))) (aq (bM (aN uY (qv 5) au (nomark _)) (aq (Bp (qv 2) (aY bh (qv 3) (qv 4) (fun _ _=>rfl)) (uK (K:=K) rfl) (qv 5) sJ set_list)) bF)))
   (aq (aU (qv 2)))))))),?_⟩
  walk_at "wp"
  refine ⟨a,ws,rfl,hS,hb.two,hb.top,hb.le,?_⟩
  walk_at "wp"
  refine ⟨_,hS,?_⟩
  rw [List.length_map]
  refine ⟨ws.length,rfl,hb.two,hb.top,lim,ws.length ^ 20,rfl,hlim,?_⟩
  walk_at "wp"
  refine ⟨by decide,fun z hz=>⟨a,ws,rfl,(Same.new hz).sq hS,hb.two,hb.top,hb.le,fun l out H2 hl hl2 ho K5 hlen hne hall h12=>?_⟩⟩
  have hh:=lB hb (fun p hp=>(ho p hp).2.2) K5 hall
  have hol:out.length=(aW ws).length:=by have:=congrArg List.length hh;simpa using this
  have Ss:Same H H2:=(Same.new hz).trans h12
  have hz2:=h12 _ _ (upd_same (H:=H) (a:=z) (o:=.lst [.int 0]))
  have adD:=hb.few
  walk_at "wp"
  refine ⟨_,bA.of hl2,?_⟩
  rw [List.length_map,hol]
  walk_at "wp"
  refine ⟨_,hz2,by omega,by omega,by rw [List.length_singleton,Nat.one_mul];exact Nat.le_of_lt (aD (by omega)),fun p hp=>?_⟩
  rw [yZ]
  have Zu:H p=none:=Ss.free hp
  have aa0:Same H (upd H2 p (.lst ((aW ws).map fun _=>vI 0))):=Ss.trans (Same.new hp)
  have hpp:upd H2 p (.lst ((aW ws).map fun _=>vI 0)) p=some (.lst ((aW ws).map fun _=>vI 0)):=upd_same
  generalize upd H2 p (.lst ((aW ws).map fun _=>vI 0))=H3 at aa0 hpp
  refine ⟨a,ws,rfl,aa0.sq hS,hb,fun pl H4 hpl adK h4=>?_⟩
  have Iv:Same H H4:=aa0.trans h4
  refine ⟨a,ws,lim,rfl,Iv.sq hS,hb,hlim,fun tl L H5 htl adL hL hfl h5=>?_⟩
  have adM:Same H H5:=Iv.trans h5
  have hp5:=h5 _ _ (h4 _ _ hpp)
  have adN:=h5 _ _ adK
  have htp:tl≠p:=fun e=>by rw [e,h4 _ _ hpp] at htl;cases htl
  have adO:pl≠p:=fun e=>by rw [e,hpp] at hpl;cases hpl
  walk_at "wp"
  refine Lr.go (xs:=(tab L (cin ws 0 lim)).map vI) (SqL.of adL) (fun i σ H6=>i≤L∧∃ v1 v2,σ=[some (.ref a),some (vI lim),some (.ref p),some (.ref pl),v1,v2]∧H6 p=some (.lst ((aW ws).map fun M=>vI (Zg ws lim i M)))∧∀ b o,b≠p→H5 b=some o→H6 b=some o) ⟨Nat.zero_le _,none,none,rfl,hp5,fun b o _ e=>e⟩ ?_ ?_ ?_
  ·rintro i σ H6 _ ⟨_,v1,v2,rfl,_,h6⟩ o e
   exact h6 tl o htp e
  ·rintro i x t σ H6 N hx ⟨hi,v1,v2,rfl,SM,h6⟩ ht hN
   rw [List.getElem?_map,Option.map_eq_some_iff] at hx
   obtain ⟨m,hm',rfl⟩:=hx
   have hiL:i<L:=by have:=(List.getElem?_eq_some_iff.mp hm').1;rw [dw] at this;exact this
   rw [wU hiL] at hm'
   obtain rfl:=Option.some.inj hm'
   walk_at "wp"
   refine ⟨_,SqT.of upd_same,by rfl,?_⟩
   walk_at "wp"
   have h6':∀ b o,b≠p→H5 b=some o→upd H6 t (.tup [.int (i:Int),vI (cin ws 0 lim i)]) b=some o:=fun b o hb' e=>Same.new ht _ _ (h6 b o hb' e)
   have Yy:upd H6 t (.tup [.int (i:Int),vI (cin ws 0 lim i)]) p=some (.lst ((aW ws).map fun M=>vI (Zg ws lim i M))):=by rw [upd_ne (ne_of_none SM ht)];exact SM
   generalize upd H6 t (.tup [.int (i:Int),vI (cin ws 0 lim i)])=H7 at h6' Yy
   refine ite2 (fun c=>?_) (fun c=>?_)
   ·have aa1:i<1001:=by
     apply Nat.lt_of_not_le
     intro z
     have:=Qj hb (lo:=0) (m:=lim) (n:=20) (s:=i) (by decide) (by omega) (by omega)
     omega
    have hmem:=hb.sZ i
    have hat:=ql hmem
    refine ⟨_,bA.of (h6' _ _ adO adN),_,nM aa1,?_⟩
    walk_at "wp"
    refine ⟨_,SqL.of Yy,vI (Zg ws lim i (hm (fall ws) i)),atI_nat (by rw [List.getElem?_map,hat];rfl),?_⟩
    walk_at "wp"
    refine ⟨_,Yy,ix ws (hm (fall ws) i),jU (by rw [List.length_map];exact Qm hmem),hN _ _ ⟨by omega,_,_,rfl,?_,fun b o hb' e=>by rw [upd_ne hb'];exact h6' b o hb' e⟩⟩
    rw [upd_same,Cu (qg ws) hat]
    congr 2
    refine List.map_congr_left fun M _=>?_
    rw [JR]
    by_cases e:M=hm (fall ws) i
    ·rw [if_pos e,if_pos e.symm,e];rfl
    ·rw [if_neg e,if_neg fun z=>e z.symm];rfl
   ·refine hN _ _ ⟨by omega,_,_,rfl,?_,h6'⟩
    rw [Yy]
    congr 2
    refine List.map_congr_left fun M _=>?_
    rw [JR,show cin ws 0 lim i=0 by omega]
    split <;> rfl
  ·rintro σ H6 ⟨_,v1,v2,rfl,SM,h6⟩
   walk_at "wp"
   rw [List.length_map,dw] at SM
   refine k p H6 Zu ?_ (fun b o e=>h6 b o (ne_of_none e Zu) (adM _ _ e))
   rw [SM]
   congr 2
   exact List.map_congr_left fun M _=>by rw [Ql hb L M lim hfl]
theorem zN (T:Txt mg) (F:aM K mg "check_counted" f9 ["number","base"]) (cA:gB P w K mg base):pL P w K mg base:=by
 refine F.aZ m8.2 xX.2 xY (fun vs H Q E h=>?_) (fun f cdv A outer s H vs Q E hr h=>?_) <;> obtain ⟨n,b,rfl,h1,h2,h3,k⟩:=h
 ·rfl
 ·have hu:=hu_of hr
  refine ⟨_,(aq (bM (wJ (aN mH (qv 0) au (nomark _)) (qd (aN op_ge (qv 0) (aA cA (hr.mono (by decide)) pass0 (aj (qv 1) ak)) (nomark _)))).qt (aq (cW)) bF)),?_⟩
  walk_at "wp"
  rw [if_neg (by omega)]
  refine ⟨b,rfl,h1,h2,?_⟩
  walk_at "wp"
  rw [if_neg (by omega)]
  exact k
theorem KZ (T:Txt mg) (F:aM K mg "place_of" qz ["worths","number"]) (dj:jB P w K mg base) (bK:gM P w K mg base) (cV:lJ P w K mg base) (jD:pL P w K mg base) (aJ:bQ P w K mg base):Ab P w K mg base:=by
 refine F.aZ xZ.2 Im.2 yc (fun vs H Q E h=>?_) (fun f cdv A outer s H vs Q E hr h=>?_) <;> obtain ⟨a,ws,n,rfl,hS,hb,hn,k⟩:=h
 ·rfl
 ·have hu:=hu_of hr
  refine ⟨_,(ao (aP (aA aJ (hr.mono (by decide)) pass0 (aj (qv 0) ak)))
   (ao (aP (aA jD (hr.mono (by decide)) pass0 (aj (qv 1) (aj (aL aH (by rfl) T.cQ PySem.boot_len (aj (qv 0) ak)) ak))))
   (ao (aB (i:=2) yc.nd rfl (Or.inl rfl) (aY bh (aA cV (hr.mono (by decide)) pass0 (aj (qv 0) (aj (qv 1) ak))) au (fun _ _=>rfl)))
   (aq (aU (aY bh (aA (Good.alias dj T.gZ) (hr.mono (by decide)) pass0 (aj (qv 0) (aj (qv 1) ak))) (fU (K:=K) rfl PySem.F.plainAttrs_list PySem.F.slot_list_index PySem.F.type_list_index (RX (Mt hr)) (aA bK (hr.mono (by decide)) pass0 (aj (qv 0) ak)) (aj (qv 2) ak)) (fun _ _=>rfl))))))),?_⟩
  have hn2:n<ws.length ^ 1001:=Nat.lt_of_lt_of_le hn (Nat.pow_le_pow_right (by have:=hb.two;omega) (by decide))
  walk_at "wp"
  refine ⟨a,ws,rfl,hS,hb.two,hb.top,hb.le,?_⟩
  walk_at "wp"
  refine ⟨_,hS,?_⟩
  rw [List.length_map]
  refine ⟨n,ws.length,rfl,hb.two,hb.top,hn,?_⟩
  walk_at "wp"
  refine ⟨a,ws,n,rfl,hS,hb.two,hb.top,hb.le,hn2,fun R j rp t H2 hR hrp ht adP RP h2=>?_⟩
  obtain ⟨L,Ac⟩:=hR.hmR
  walk_at "wp"
  refine ⟨_,bA.ofT RP,_,rfl,?_⟩
  walk_at "wp"
  refine ⟨a,ws,n,rfl,h2.sq hS,hb,by omega,fun c H3 hc hc3 h3=>?_⟩
  refine ⟨a,ws,rfl,h3.sq (h2.sq hS),hb.two,hb.top,hb.le,fun l out H4 hl hl4 ho K5 hlen hne hall h4=>?_⟩
  have hh:=lB hb (fun p hp=>(ho p hp).2.2) K5 hall
  walk_at "wp"
  have hmem:=hb.sZ n
  have hol:out.length=(aW ws).length:=by have:=congrArg List.length hh;simpa using this
  obtain ⟨p,hp,hpR⟩:=hall R _ L Ac
  have hd:∀ {R:List Nat} {M L:Nat},aX (fall ws) R M L→(R.map (fun d:Nat=>(d:Int))).headD 0=(M:Int):=fun {R M L} h=>by
   have:=h.head
   cases R with
   | nil=>cases this
   | cons x r=>have e:x=M:=Option.some.inj this;rw [e];rfl
  have hat:∀ m q,out[m]? = some q→(q.2=R.map (fun d:Nat=>(d:Int)) ↔ m=ix ws (hm (fall ws) n)):=fun m q hq=>by
   obtain ⟨_,_,R',M',L',hR',hq'⟩:=ho q (List.mem_of_getElem? hq)
   have hM:(aW ws)[m]? = some M':=by
    have e:=congrArg (fun l:List Int=>l[m]?) hh
    simp only [List.getElem?_map,hq] at e
    rw [Option.map_some,hq',hd hR'] at e
    cases q3:(aW ws)[m]? with
    | none=>rw [q3] at e;cases e
    | some m'=>rw [q3] at e;have e2:(M':Int)=(m':Int):=Option.some.inj e;rw [show m' = M' by omega]
   constructor
   ·intro e
    have e2:(M':Int)=(hm (fall ws) n:Int):=by rw [←hd hR',←hq',e,hd Ac]
    have e3:M' = hm (fall ws) n:=by omega
    rw [←e3,Zh hM]
   ·intro e
    have e3:M' = hm (fall ws) n:=by
     have:=ql hmem
     rw [←e,hM] at this
     exact Option.some.inj this
    subst e3
    rw [hq',(Ac.uniq hR' (n:=hm (fall ws) n) (i:=0) (i':=0) (Ac.eO 0) (hR'.eO 0)).1]
  have hil:ix ws (hm (fall ws) n)<out.length:=by rw [hol];exact Qm hmem
  refine ⟨⟨_,SqL.of hl4⟩,out,hl4,fun q hq=>(ho q hq).2.1,R.map (fun d:Nat=>(d:Int)),by rw [List.map_map];exact h4 _ _ (h3 _ _ adP),ix ws (hm (fall ws) n),?_,fun m hm' z=>?_,?_⟩
  ·rw [List.getElem?_map,List.getElem?_eq_getElem hil]
   exact congrArg some ((hat _ _ (List.getElem?_eq_getElem hil)).mpr rfl)
  ·have hml:m<out.length:=by omega
   rw [List.getElem?_map,List.getElem?_eq_getElem hml] at z
   have:=(hat m _ (List.getElem?_eq_getElem hml)).mp (Option.some.inj z)
   omega
  walk_at "wp"
  refine ⟨_,bA.of (h4 _ _ hc3),_,atI_nat (by rw [List.getElem?_map,ql hmem];rfl),k _ ((h2.trans h3).trans h4)⟩
theorem yw (T:Txt mg) (F:MethAt K "House" "place_of" "House.place_of" fC ["self","name","number"]) (bJ:ClsAt K mg "Book") (aG:ClsAt K mg "House") (aK:pB K "Book" "worths") (wg:Ab P w K mg base) (aF:bL P w K mg base):nA P w K mg base:=by
 refine F.aZ lC.2 vQ.2 vR (fun vs H Q E h=>?_) (fun f cdv A outer s H vs Q E hr h=>?_) <;> obtain ⟨h,nm,ws,n,rfl,⟨dx,d,b,bx,wl,tl,kvs,hh,hd,hv,hbk,hwl⟩,hb,hl,k⟩:=h
 ·rfl
 ·have hu:=hu_of hr
  refine ⟨_,(aq (aU (aA (Good.alias wg T.vN) (hr.mono (by decide)) pass0 (aj (dg (K:=K) rfl (cX (K:=K) (pl:=_) rfl aG aF (hr.mono (by decide)) pass0 (qv 0) (aj (qv 1) ak))) (aj (qv 2) ak))))),?_⟩
  walk_at "wp"
  refine ⟨_,_,hh,by rfl,h,dx,d,b,kvs,nm,rfl,hh,hd,hv,?_⟩
  walk_at "wp"
  refine ⟨_,_,_,hbk,bJ.cl,aK,_,by rfl,?_⟩
  walk_at "wp"
  exact ⟨wl,ws,n,rfl,bA.of hwl,hb,Hy hb.two (show n+1≤_ by omega),k⟩
theorem ux (T:Txt mg) (F:aM K mg "counts_one_by_one" cZ ["worths","limit"]) (cV:lJ P w K mg base) (bK:gM P w K mg base) (dW:lO P w K mg base) (aJ:bQ P w K mg base):jy P w K mg base:=by
 refine F.aZ iQ.2 su.2 cP (fun vs H Q E h=>?_) (fun f cdv A outer s H vs Q E hr h=>?_) <;> obtain ⟨a,ws,lim,rfl,hS,hb,hlim,k⟩:=h
 ·rfl
 ·have hu:=hu_of hr
  refine ⟨_,(ao (aP (aA aJ (hr.mono (by decide)) pass0 (aj (qv 0) ak)))
   (ao (aP (aA dW (hr.mono (by decide)) pass0 (aj (qv 1) (aj (mL T.xH) ak))))
   (ao (aB (i:=2) cP.nd rfl (Or.inl rfl) kY)
   (ao (cB PassesOwn.never rfl (o8 (aA bK (hr.mono (by decide)) pass0 (aj (qv 0) ak))) (aR (i:=3) cP.nd rfl (Or.inl rfl)) (aq (jd hu (qv 2) (aY bh (qv 3) au (fun _ _=>rfl)) au rfl)))
   (ao (cB PassesOwn.never rfl (bZ rfl T.cO (aj (qv 1) ak)) (aR (i:=4) cP.nd rfl (Or.inl rfl)) (aq (Yd hu (qv 2) (aY bh (aY bh (aA cV (hr.mono (by decide)) pass0 (aj (qv 0) (aj (qv 4) ak))) au (fun _ _=>rfl)) au (fun _ _=>rfl)) au sJ)))
   (aq (aU (gH (Mf rfl) (by rfl) T.vM pR (aj (Hi (K:=K) rfl PySem.F.plainAttrs_dict PySem.F.slot_dict_values PySem.F.type_dict_values RJ (qv 2)) ak))))))))),?_⟩
  have hpow:∀ x,x≤3000→x<ws.length ^ 1001:=fun x hx=>by have:=wL hb.two;omega
  walk_at "wp"
  refine ⟨a,ws,rfl,hS,hb.two,hb.top,hb.le,?_⟩
  walk_at "wp"
  refine ⟨lim,3000,rfl,hlim,?_⟩
  walk_at "wp"
  refine fun d hd=>⟨a,ws,rfl,(Same.new hd).sq hS,hb.two,hb.top,hb.le,fun l out H2 hl hl2 ho K5 hlen hne hall h12=>?_⟩
  have hh:=lB hb (fun p hp=>(ho p hp).2.2) K5 hall
  have hd2:=h12 _ _ (upd_same (H:=H) (a:=d) (o:=.dK []))
  have Ss:Same H H2:=(Same.new hd).trans h12
  have hol:out.length=(aW ws).length:=by have:=congrArg List.length hh;simpa using this
  have few:=hb.few
  walk_at "wp"
  refine pW.at (xs:=out.map fun p=>V.ref p.1) (bA.of hl2) (fun i σ H3=>i≤out.length∧∃ v1,σ=[some (.ref a),some (vI lim),some (.ref d),v1,none]∧H3 d=some (.dK (jz (((aW ws).take i).map fun x=>(x,vI 0))))∧∀ b o,b≠d→H2 b=some o→H3 b=some o) ⟨Nat.zero_le _,none,rfl,hd2,fun b o _ e=>e⟩ ?_ ?_ ?_
  ·rintro i σ H3 _ ⟨_,v1,rfl,_,h3⟩ o e
   exact h3 l o (fun z=>by rw [z,hd2] at hl2;cases hl2) e
  ·rintro i x σ H3 N hx ⟨hi,v1,rfl,Bg,h3⟩ hN
   rw [List.getElem?_map,Option.map_eq_some_iff] at hx
   obtain ⟨q,hq,rfl⟩:=hx
   have hqm:=List.mem_of_getElem? hq
   obtain ⟨hq0,hq2,R,M,L,hR,hqR⟩:=ho q hqm
   have hhd:q.2.headD 0=(M:Int):=by
    have:=hR.head
    rw [hqR]
    cases R with
    | nil=>cases this
    | cons x r=>have e:x=M:=Option.some.inj this;rw [e];rfl
   have hM:(aW ws)[i]? = some M:=by
    have e:=congrArg (fun l:List Int=>l[i]?) hh
    simp only [List.getElem?_map,hq] at e
    rw [Option.map_some,hhd] at e
    cases q3:(aW ws)[i]? with
    | none=>rw [q3] at e;cases e
    | some m=>rw [q3] at e;have e2:(M:Int)=(m:Int):=Option.some.inj e;rw [show m=M by omega]
   have hq0':(q.2.map V.int)[0]? = some (vI M):=by rw [hqR,List.getElem?_map,List.getElem?_map,hR.head];rfl
   have hqd:q.1≠d:=fun z=>by rw [z,hd2] at hq2;cases hq2
   have hil:i<(aW ws).length:=(List.getElem?_eq_some_iff.mp hM).1
   have hlk:(((aW ws).take i).map fun x=>(x,vI 0)).lookup M=none:=c7 (by
    rw [keys_map]
    intro z
    obtain ⟨j,hj,e⟩:=List.mem_take_iff_getElem.mp z
    have:=fB (qg ws) hM (by rw [List.getElem?_eq_getElem (show j<(aW ws).length by omega),e])
    omega)
   walk_at "wp"
   refine ⟨_,bA.of (h3 _ _ hqd hq2),_,atI_nat (j:=0) hq0',?_⟩
   refine ⟨_,DPut.k (k:=Sum.inl ((M:Nat):Int)) Bg (by rw [je,List.length_map,List.length_take];exact aD (by omega)),?_⟩
   rw [uJ hlk]
   refine hN _ _ ⟨by omega,_,rfl,?_,fun b o hb' e=>by rw [upd_ne hb'];exact h3 b o hb' e⟩
   rw [upd_same,List.take_add_one,hM,List.map_append];rfl
  ·rintro σ H3 ⟨_,v1,rfl,Bg,h3⟩
   rw [List.length_map,hol,List.take_of_length_le (Nat.le_refl _)] at Bg
   have Nh:Same H H3:=fun b o e=>h3 b o (ne_of_none e hd) (Ss b o e)
   walk_at "wp"
   refine ⟨by omega,by omega,nH.go (fun i σ H4=>∃ v2,σ=[some (.ref a),some (vI lim),some (.ref d),v1,v2]∧H4 d=some (.dK (jz ((aW ws).map fun x=>(x,vI (cnt ws i x)))))∧Same H H4) ⟨none,rfl,Bg,Nh⟩ ?_ ?_⟩
   ·rintro i σ H4 N hi ⟨v2,rfl,W0,h4⟩ hN
    walk_at "wp"
    refine ⟨a,ws,i,rfl,h4.sq hS,hb.two,hb.top,hb.le,hpow i (by omega),fun R' j rp t H5 hR' hrp ht adQ Yx h5=>?_⟩
    obtain ⟨L',Ac⟩:=hR'.hmR
    have hmem:=hb.sZ i
    walk_at "wp"
    refine ⟨_,bA.ofT Yx,_,rfl,?_⟩
    walk_at "wp"
    refine ⟨_,bA.of adQ,vI (hm (fall ws) i),atI_nat (j:=0) (by rw [List.getElem?_map,Ac.head];rfl),?_⟩
    have Yz:=h5 _ _ W0
    refine ⟨vI (cnt ws i (hm (fall ws) i)),?_,?_⟩
    ·have:=DGet.k (k:=Sum.inl ((hm (fall ws) i:Nat):Int)) Yz
     rw [cF,qm (F:=fun x=>vI (cnt ws i x)) hmem] at this
     exact this
    walk_at "wp"
    refine ⟨_,DPut.k (k:=Sum.inl ((hm (fall ws) i:Nat):Int)) Yz (by rw [je,List.length_map];exact aD (by omega)),?_⟩
    rw [Qx (F:=fun x=>vI (cnt ws i x)) hmem]
    refine hN _ _ ⟨_,rfl,?_,fun b o e=>by rw [upd_ne (ne_of_none e hd)];exact h5 _ _ (h4 _ _ e)⟩
    rw [upd_same]
    congr 3
    refine List.map_congr_left fun x _=>?_
    rw [gU]
    by_cases e:x=hm (fall ws) i
    ·rw [if_pos e,if_pos e.symm,e];rfl
    ·rw [if_neg e,if_neg fun z=>e z.symm];rfl
   ·rintro σ H4 ⟨v2,rfl,W0,h4⟩
    walk_at "wp"
    refine ⟨V5 W0,V4 W0 fun p H5 hp hp5 h5=>k p H5 (h4.free hp) ?_ (h4.trans h5)⟩
    rw [hp5,V6 (fun x=>vI (cnt ws lim x))]
theorem lW (T:Txt mg) (F:MethAt K "House" "counts_one_by_one" "House.counts_one_by_one" bV ["self","name","limit"]) (bJ:ClsAt K mg "Book") (aG:ClsAt K mg "House") (aK:pB K "Book" "worths") (fK:jy P w K mg base) (aF:bL P w K mg base):eV P w K mg base:=by
 refine F.aZ eE.2 j7.2 j8 (fun vs H Q E h=>?_) (fun f cdv A outer s H vs Q E hr h=>?_) <;> obtain ⟨h,nm,ws,lim,rfl,⟨dx,d,b,bx,wl,tl,kvs,hh,hd,hv,hbk,hwl⟩,hb,hl,k⟩:=h
 ·rfl
 ·have hu:=hu_of hr
  refine ⟨_,(aq (aU (aA (Good.alias fK T.jX) (hr.mono (by decide)) pass0 (aj (dg (K:=K) rfl (cX (K:=K) (pl:=_) rfl aG aF (hr.mono (by decide)) pass0 (qv 0) (aj (qv 1) ak))) (aj (qv 2) ak))))),?_⟩
  walk_at "wp"
  refine ⟨_,_,hh,by rfl,h,dx,d,b,kvs,nm,rfl,hh,hd,hv,?_⟩
  walk_at "wp"
  refine ⟨_,_,_,hbk,bJ.cl,aK,_,by rfl,?_⟩
  walk_at "wp"
  exact ⟨wl,ws,lim,rfl,bA.of hwl,hb,by omega,k⟩
theorem sG (T:Txt mg) (F:MethAt K "House" "counts_below" "House.counts_below" cY ["self","name","limit"]) (bJ:ClsAt K mg "Book") (aG:ClsAt K mg "House") (aK:pB K "Book" "worths") (dj:jB P w K mg base) (aF:bL P w K mg base):iR P w K mg base:=by
 refine F.aZ iy.2 qC.2 qF (fun vs H Q E h=>?_) (fun f cdv A outer s H vs Q E hr h=>?_) <;> obtain ⟨h,nm,ws,lim,rfl,⟨dx,d,b,bx,wl,tl,kvs,hh,hd,hv,hbk,hwl⟩,hb,hl,k⟩:=h
 ·rfl
 ·have hu:=hu_of hr
  refine ⟨_,(aq (aU (aA (Good.alias dj T.gZ) (hr.mono (by decide)) pass0 (aj (dg (K:=K) rfl (cX (K:=K) (pl:=_) rfl aG aF (hr.mono (by decide)) pass0 (qv 0) (aj (qv 1) ak))) (aj (qv 2) ak))))),?_⟩
  walk_at "wp"
  refine ⟨_,_,hh,by rfl,h,dx,d,b,kvs,nm,rfl,hh,hd,hv,?_⟩
  walk_at "wp"
  refine ⟨_,_,_,hbk,bJ.cl,aK,_,by rfl,?_⟩
  walk_at "wp"
  exact ⟨wl,ws,lim,rfl,bA.of hwl,hb,Hy hb.two (by omega),k⟩
theorem Iz (T:Txt mg) (F:aM K mg "_law_fall" m9 ["_law_row_here","_law_number"]) :yt P w K mg base:=by
 refine F.aZ vh.2 EY.2 fV (fun vs H Q E h=>?_) (fun f cdv A outer s H vs Q E hr h=>?_) <;> obtain ⟨a,ws,n,rfl,hS,h1,h2,k⟩:=h
 ·rfl
 ·have hu:=hu_of hr
  refine ⟨_,(ao (aB (i:=2) fV.nd rfl (Or.inl rfl) (aY bh (qv 0) (aO op_mod (qv 1) (aL aH (by rfl) T.cQ PySem.boot_len (aj (qv 0) ak))) (fun _ _=>rfl)))
   (ao (aB (i:=3) fV.nd rfl (Or.inl rfl) (aO eG (qv 1) (aL aH (by rfl) T.cQ PySem.boot_len (aj (qv 0) ak))))
   (ao (kZ PassesOwn.never (aN uY (qv 3) au (nomark _)) (ao (aB (i:=2) fV.nd rfl (Or.inl rfl) (aO op_add (qv 2) (aY bh (qv 0) (aO op_mod (qv 3) (aL aH (by rfl) T.cQ PySem.boot_len (aj (qv 0) ak))) (fun _ _=>rfl))))
   (aq (aB (i:=3) fV.nd rfl (Or.inl rfl) (aO eG (qv 3) (aL aH (by rfl) T.cQ PySem.boot_len (aj (qv 0) ak)))))))
   (aq (aU (qv 2)))))),?_⟩
  have hmod:∀ r:Nat,(r:Int) % (ws.length:Int)=((r % ws.length:Nat):Int):=fun r=>by rw [Int.natCast_emod]
  have hdiv:∀ r:Nat,(r:Int) / (ws.length:Int)=((r / ws.length:Nat):Int):=fun r=>by rw [Int.natCast_ediv]
  walk_at "wp"
  refine ⟨_,hS,?_⟩
  rw [List.length_map,hmod]
  refine ⟨by omega,_,hS,_,mO (Nat.mod_lt _ (by omega)),_,hS,?_⟩
  rw [List.length_map,hdiv]
  refine ⟨gQ (by omega) (by omega),?_⟩
  refine pX (fun r σ H2=>∃ t:Nat,σ=[some (.ref a),some (vI n),some (vI t),some (vI r)]∧H2=H∧fall ws n=t+(if r=0 then 0 else fall ws r)) (n / ws.length) ⟨_,rfl,rfl,Gh h1 n⟩ ?_
  rintro r σ H2 ⟨t,rfl,rfl,he⟩
  walk_at "wp"
  refine ite2 (fun c=>Wh.go fun N hN=>?_) (fun c=>?_)
  ·walk_at "wp"
   refine ⟨_,hS,?_⟩
   rw [List.length_map,hmod]
   refine ⟨by omega,_,hS,_,mO (Nat.mod_lt _ (by omega)),?_⟩
   walk_at "wp"
   refine ⟨_,hS,?_⟩
   rw [List.length_map,hdiv]
   refine ⟨gQ (by omega) (by omega),hN (r / ws.length) _ _ (Nat.div_lt_self (by omega) (by omega)) ⟨t+wt ws (r % ws.length),by walk_at "cast",rfl,?_⟩⟩
   rw [he,if_neg (by omega),Gh h1 r]
   omega
  ·walk_at "wp"
   rw [if_pos (by omega)] at he
   rw [show t=fall ws n by omega]
   exact k
theorem Ft (T:Txt mg) (F:aM K mg "_law_homes" j9 ["_law_row_here","_law_top"]) (uy:yt P w K mg base):vB P w K mg base:=by
 refine F.aZ tV.2 Dl.2 bH (fun vs H Q E h=>?_) (fun f cdv A outer s H vs Q E hr h=>?_) <;> obtain ⟨a,ws,tp,rfl,hS,hb,hT,k⟩:=h
 ·rfl
 ·have hu:=hu_of hr
  refine ⟨_,(ao (aB (i:=2) bH.nd rfl (Or.inl rfl) kY)
   (ao (cB PassesOwn.never rfl (bZ rfl T.cO (aj (qv 1) ak)) (aR (i:=3) bH.nd rfl (Or.inl rfl)) (ao (aB (i:=4) bH.nd rfl (Or.inl rfl) (cu ak))
   (ao (aB (i:=5) bH.nd rfl (Or.inl rfl) kY)
   (ao (aB (i:=6) bH.nd rfl (Or.inl rfl) (qv 3))
   (ao (kZ PassesOwn.never (yM (o7 hu (qv 6) (qv 2)) (wI (o7 hu (qv 6) (qv 5)))).qt (ao (jd hu (qv 5) (qv 6) (aL aH (by rfl) T.cQ PySem.boot_len (aj (qv 4) ak)) rfl)
   (ao (aP (fU (K:=K) rfl PySem.F.plainAttrs_list PySem.F.slot_list_append PySem.F.type_list_append bY (qv 4) (aj (qv 6) ak)))
   (aq (aB (i:=6) bH.nd rfl (Or.inl rfl) (aA uy (hr.mono (by decide)) pass0 (aj (qv 0) (aj (qv 6) ak))))))))
   (ao (bM (Va hu (qv 6) (qv 2)) (aq (aB (i:=7) bH.nd rfl (Or.inl rfl) (bD hu (qv 2) (qv 6) (fun _ _=>rfl)))) (aq (aB (i:=7) bH.nd rfl (Or.inl rfl) (aL (Ge rfl) (by rfl) T.WW Lj (aj (gP FW (qv 4) (gO (bD hu (qv 5) (qv 6) (fun _ _=>rfl))) pZ) ak)))))
   (aq (cB PassesOwn.never rfl (o8 (qv 4)) (aR (i:=8) bH.nd rfl (Or.inl rfl)) (aq (jd hu (qv 2) (qv 8) (qv 7) rfl))))))))))
   (aq (aU (qv 2))))),?_⟩
  walk_at "wp"
  refine fun d hd=>⟨by omega,by omega,?_⟩
  refine nH.go (fun i σ H2=>∃ (ps:List (Nat×V)) (v1 v2 v3 v4 v5 v6:Option V),σ=[some (.ref a),some (vI tp),some (.ref d),v1,v2,v3,v4,v5,v6]∧H2 d=some (.dK (jz ps))∧Qi ws i tp ps∧Same H H2) ⟨[],none,none,none,none,none,none,rfl,upd_same,Qi.nil ws tp,Same.new hd⟩ ?_ ?_
  ·rintro i σ H2 N hi ⟨ps,v1,v2,v3,v4,v5,v6,rfl,hd2,hm2,hs2⟩ hN
   walk_at "wp"
   refine ⟨by decide,fun p hp q hq=>?_⟩
   have hp0:H p=none:=hs2.free hp
   have hq0:H q=none:=hs2.free ((Same.new hp).free hq)
   have hpq:p≠q:=ne_of_none (o:=.lst []) upd_same hq
   have hdp:d≠p:=ne_of_none hd2 hp
   have hdq:d≠q:=ne_of_none (Same.new (o:=.lst []) hp _ _ hd2) hq
   refine pX (fun m σ H3=>∃ (t:Nat) (w1 w2:Option V),m=tp+452 - t∧K4 (fall ws) i (ps.map (·.1)) t∧σ=[some (.ref a),some (vI tp),some (.ref d),some (vI i),some (.ref p),some (.ref q),some (vI (it (fall ws) i t)),w1,w2]∧H3 d=some (.dK (jz ps))∧H3 p=some (.lst ((path (fall ws) i t).map vI))∧H3 q=some (.dK (jz (Ag (fall ws) i t)))∧Same H2 H3) (tp+452) ⟨0,_,_,rfl,K4.zero hm2.nd,rfl,?_,?_,upd_same,(Same.new hp).trans (Same.new hq)⟩ ?_
   ·rw [upd_ne hdq,upd_ne hdp];exact hd2
   ·rw [upd_ne hpq];exact upd_same
   rintro m σ H3 ⟨t,w1,w2,rfl,hwk,rfl,Bg,hp3,hq3,hs3⟩
   have hlen:=hm2.short hb (by omega) hwk
   walk_at "wp"
   refine ⟨_,DGet.k (k:=Sum.inl ((it (fall ws) i t:Nat):Int)) Bg,?_⟩
   rw [cF,lookup_isSome]
   have hi':i≤tp:=by omega
   have fin:∀ (D:Ends) (H5:Hp) (w2:Option V) (x:V),D.nx=N→x=vI (hm (fall ws) i)→it (fall ws) i t∈ps.map (·.1)++path (fall ws) i t→H5 d=some (.dK (jz ps))→H5 p=some (.lst ((path (fall ws) i t).map vI))→Same H H5 →
     pW K p (gName 8) (sDPut (tVar 2) (tVar 8) (tVar 7)) D [some (.ref a),some (vI tp),some (.ref d),some (vI i),some (.ref p),some (.ref q),some (vI (it (fall ws) i t)),some x,w2] H5:=by
    intro D H5 w2 x hD hx hc h5 hp5 hs5
    subst hx
    refine pW.at (xs:=(path (fall ws) i t).map vI) (bA.of hp5) (fun j σ H6=>j≤t∧∃ v6:Option V,σ=[some (.ref a),some (vI tp),some (.ref d),some (vI i),some (.ref p),some (.ref q),some (vI (it (fall ws) i t)),some (vI (hm (fall ws) i)),v6]∧H6 d=some (.dK (jz (ps++(path (fall ws) i j).map fun x=>(x,vI (hm (fall ws) i)))))∧∀ b o,b≠d→H5 b=some o→H6 b=some o) ⟨Nat.zero_le _,w2,rfl,?_,fun b o _ e=>e⟩ ?_ ?_ ?_
    ·show H5 d=some (.dK (jz (ps++[])))
     rw [List.append_nil];exact h5
    ·rintro j σ H6 _ ⟨_,v6,rfl,_,h6⟩ o e
     exact h6 p o (Ne.symm hdp) e
    ·rintro j x σ H6 N2 hx ⟨hj,v6,rfl,hd6,h6⟩ Sh
     rw [List.getElem?_map,Option.map_eq_some_iff] at hx
     obtain ⟨y,hy,rfl⟩:=hx
     have hjt:j<t:=by have:=(List.getElem?_eq_some_iff.mp hy).1;rw [bf] at this;exact this
     rw [bW hjt] at hy
     obtain rfl:=Option.some.inj hy
     walk_at "wp"
     have hlk:(ps++(path (fall ws) i j).map fun x=>(x,vI (hm (fall ws) i))).lookup (it (fall ws) i j)=none:=c7 (by
      rw [qj]
      intro z
      have nd:=hwk.nd
      rcases List.mem_append.mp z with z | z
      ·exact (List.nodup_append.mp nd).2.2 _ z _ (bw.mpr ⟨j,hjt,rfl⟩) rfl
      ·obtain ⟨m,hm,e⟩:=bw.mp z
       have:=fB (List.nodup_append.mp nd).2.1 (bW (f:=fall ws) (n:=i) (show m<t by omega)) (by rw [e];exact bW hjt)
       omega)
     refine ⟨_,DPut.k (k:=Sum.inl ((it (fall ws) i j:Nat):Int)) hd6 (by rw [je,List.length_append,List.length_map,bf];exact aD (by omega)),?_⟩
     rw [uJ hlk]
     refine Sh _ _ ⟨by omega,_,rfl,?_,fun b o hb e=>by rw [upd_ne hb];exact h6 b o hb e⟩
     rw [upd_same,gJ,List.map_append,←List.append_assoc];rfl
    ·rintro σ H6 ⟨_,v6,rfl,hd6,h6⟩
     rw [List.length_map,bf] at hd6
     rw [hD]
     exact hN _ _ ⟨_,_,_,_,_,_,_,rfl,hd6,hm2.next hb hi' hwk hc,fun b o e=>h6 b o (ne_of_none e hd) (hs5 b o e)⟩
   have Nh:Same H H3:=hs2.trans hs3
   refine ite2 (fun c=>?_) (fun c=>?_)
   ·have c:=of_decide_eq_true c
    refine ⟨_,DGet.k (k:=Sum.inl ((it (fall ws) i t:Nat):Int)) Bg,?_⟩
    have hv:=hm2.at c
    rw [cF,hv]
    walk_at "wp"
    refine ⟨vI (hm (fall ws) (it (fall ws) i t)),by have:=DGet.k (k:=Sum.inl ((it (fall ws) i t:Nat):Int)) Bg;rw [cF,hv] at this;exact this,?_⟩
    exact fin _ _ _ _ rfl (by rw [hb.VF]) (List.mem_append_left _ c) Bg hp3 Nh
   ·have c:it (fall ws) i t ∉ ps.map (·.1):=fun z=>c (decide_eq_true z)
    refine ⟨_,DGet.k (k:=Sum.inl ((it (fall ws) i t:Nat):Int)) hq3,?_⟩
    rw [cF,lookup_isSome,yQ]
    refine ite2 (fun c2=>?_) (fun c2=>Wh.go fun N' hN'=>?_)
    ·have c2:=of_decide_eq_true c2
     obtain ⟨j,hj,hj2⟩:=bw.mp c2
     have hnd:=(List.nodup_append.mp hwk.nd).2.1
     refine ⟨_,DGet.k (k:=Sum.inl ((it (fall ws) i t:Nat):Int)) Bg,?_⟩
     rw [cF,c7 c]
     walk_at "wp"
     refine ⟨vI j,?_,?_⟩
     ·have:=DGet.k (k:=Sum.inl ((it (fall ws) i t:Nat):Int)) hq3
      rw [cF,←hj2,Py hnd hj] at this
      rw [←hj2];exact this
     walk_at "wp"
     refine ⟨_,SqL.of hp3,fun u hu=>?_⟩
     have aaS:oW ((path (fall ws) i t).map vI) (some (j:Int)) none=((path (fall ws) i t).drop j).map vI:=by rw [sV (by rw [List.length_map,bf];omega),List.map_drop]
     rw [aaS]
     refine ⟨((path (fall ws) i t).drop j).map (fun d:Nat=>(d:Int)),SqL.of (by rw [List.map_map];exact upd_same),?_,fun M hM hmin=>?_⟩
     ·intro z
      have h0:=congrArg List.length z
      rw [List.length_map,List.length_drop,bf,List.length_nil] at h0
      omega
     obtain ⟨m,rfl,h1,h2⟩:=XM hM hmin
     refine fin _ _ _ _ rfl ?_ (List.mem_append_right _ c2) (Same.new hu _ _ Bg) (Same.new hu _ _ hp3) (Nh.trans (Same.new hu))
     rw [VG hb hnd hj hj2 h1 h2]
    ·have c2:it (fall ws) i t ∉ path (fall ws) i t:=fun z=>c2 (decide_eq_true z)
     have hw2:K4 (fall ws) i (ps.map (·.1)) (t+1):=hwk.succ (fun z=>(List.mem_append.mp z).elim c c2)
     have hlen2:=hm2.short hb hi' hw2
     walk_at "wp"
     have hlk:(Ag (fall ws) i t).lookup (it (fall ws) i t)=none:=c7 (by rw [yQ];exact c2)
     refine ⟨_,bA.of hp3,?_⟩
     rw [List.length_map,bf]
     refine ⟨_,DPut.k (k:=Sum.inl ((it (fall ws) i t:Nat):Int)) hq3 (by rw [je,Vf];exact aD (by omega)),?_⟩
     rw [uJ hlk]
     have DN:∀ o,upd H3 q o p=some (.lst ((path (fall ws) i t).map vI)):=fun o=>by rw [upd_ne hpq];exact hp3
     refine ⟨⟨_,SqL.of (DN _)⟩,_,DN _,by rw [List.length_map,bf];exact aD (by omega),?_⟩
     generalize hH4:upd (upd H3 q (.dK (jz (Ag (fall ws) i t++[(it (fall ws) i t,V.int (t:Int))])))) p (.lst ((path (fall ws) i t).map vI++[vI (it (fall ws) i t)]))=H4
     have Yv:Same H2 H4:=fun b o e=>by rw [←hH4,upd_ne (ne_of_none e hp),upd_ne (ne_of_none e ((Same.new (o:=.lst []) hp).free hq))];exact hs3 _ _ e
     have DN:H4 p=some (.lst ((path (fall ws) i (t+1)).map vI)):=by rw [←hH4,upd_same,gJ,List.map_append];rfl
     have hq4:H4 q=some (.dK (jz (Ag (fall ws) i (t+1)))):=by rw [←hH4,upd_ne hpq.symm,upd_same,Gi]
     exact ⟨a,ws,_,rfl,(hs2.trans Yv).sq hS,hb.two,hb.top,hN' (tp+452 - (t+1)) _ _ (by omega) ⟨t+1,_,_,rfl,hw2,rfl,Yv _ _ hd2,DN,hq4,Yv⟩⟩
  ·rintro σ H2 ⟨ps,v1,v2,v3,v4,v5,v6,rfl,hd2,hm2,hs2⟩
   walk_at "wp"
   exact k d ps H2 hd hd2 hm2 hs2
theorem Bj (T:Txt mg) (F:aM K mg "_law_counted" iz ["_law_house","_law_name","_law_row_here","_law_limit","_law_numbers"]) (aG:ClsAt K mg "House") (lX:z9 P w K mg base) (iB:lM P w K mg base) (iW:nA P w K mg base) (cT:eV P w K mg base) (eY:iR P w K mg base) (qK:vB P w K mg base):rY P w K mg base:=by
 refine F.aZ pJ.2 zG.2 bC (fun vs H Q E h=>?_) (fun f cdv A outer s H vs Q E hr h=>?_) <;> obtain ⟨h,rw,nl,nm,ws,ns,lim,rfl,hK,hrw,hnl,hb,hlim,hns,k⟩:=h
 ·rfl
 ·have hu:=hu_of hr
  refine ⟨_,(ao (aB (i:=5) bC.nd rfl (Or.inr rfl) (aA qK (hr.mono (by decide)) pass0 (aj (qv 2) (aj au ak))))
   (ao (aB (i:=6) bC.nd rfl (Or.inl rfl) (aL (MF rfl (Mt hr)) (by rfl) T.Km FJ (aj (gH (Sd (K:=K) rfl rfl) (by rfl) T.ab6 aag (aj (BP (x:="_law_one") ⟨rfl,rfl,rfl,rfl,rfl,rfl,rfl,rfl⟩ rfl (bZ rfl T.cO (aj au ak)) (fun _ _ _ _=>(bD hu (qv 6) (qv 0) (fun _ _=>rfl))) (fun _ _ _ _=>aR (i:=0) (show (["_law_one","_law_house","_law_name","_law_row_here","_law_limit","_law_numbers","_law_homes_here","_law_firsts","_law_due","_law_places","_law_many","","_law_found"]:List Str).Nodup by decide +kernel) rfl (Or.inl rfl) (.inr rfl))) ak)) ak)))
   (ao (aB (i:=7) bC.nd rfl (Or.inl rfl) (aO G7 (cu (aj au ak)) (aL aH (by rfl) T.cQ PySem.boot_len (aj (qv 6) ak))))
   (ao (aB (i:=8) bC.nd rfl (Or.inl rfl) (cu ak))
   (ao (aB (i:=9) bC.nd rfl (Or.inl rfl) (gH (Mi rfl) (by rfl) T.aaP Yj (aj (BP (x:="_law_one") ⟨rfl,rfl,rfl,rfl,rfl,rfl,rfl,rfl⟩ rfl (o8 (qv 6)) (fun _ _ _ _=>(Hh (aj (qv 0) (aj au ak)))) (fun _ _ _ _=>aR (i:=0) (show (["_law_one","_law_house","_law_name","_law_row_here","_law_limit","_law_numbers","_law_homes_here","_law_firsts","_law_due","_law_places","_law_many","","_law_found"]:List Str).Nodup by decide +kernel) rfl (Or.inl rfl) (.inr rfl))) ak)))
   (ao (cB PassesOwn.never rfl (bZ rfl T.cO (aj au ak)) (aR (i:=10) bC.nd rfl (Or.inl rfl)) (ao (aP (fU (K:=K) rfl PySem.F.plainAttrs_list PySem.F.slot_list_append PySem.F.type_list_append bY (qv 8) (aj (bD hu (qv 9) (bD hu (qv 5) (qv 10) (fun _ _=>rfl)) (fun _ _=>rfl)) ak)))
   (ao (jd hu (qv 9) (bD hu (qv 5) (qv 10) (fun _ _=>rfl)) (aO op_add (bD hu (qv 9) (bD hu (qv 5) (qv 10) (fun _ _=>rfl)) (fun _ _=>rfl)) au) rfl)
   (aq (bM (aN mH (qv 10) (qv 3) (nomark _)) (aq (BR (bD hu (qv 9) (bD hu (qv 5) (qv 10) (fun _ _=>rfl)) (fun _ _=>rfl)) (BW (qv 7) (fU (K:=K) rfl PySem.F.plainAttrs_list PySem.F.slot_list_index PySem.F.type_list_index wH (qv 6) (aj (bD hu (qv 5) (qv 10) (fun _ _=>rfl)) ak)) set_list))) bF)))))
   (ao (bM (p8 (qb (aA lX (hr.mono (by decide)) pass0 (aj (cX (K:=K) (pl:=_) rfl aG eY (hr.mono (by decide)) pass0 (qv 0) (aj (qv 1) (aj (qv 3) ak))) (aj (qv 7) ak))))) (aq (aU mK)) bF)
   (ao (bM (p8 (qb (aA lX (hr.mono (by decide)) pass0 (aj (cX (K:=K) (pl:=_) rfl aG cT (hr.mono (by decide)) pass0 (qv 0) (aj (qv 1) (aj (qv 3) ak))) (aj (qv 7) ak))))) (aq (aU mK)) bF)
   (ao (cB PassesOwn.never rfl (o8 (qv 4)) (aR (i:=10) bC.nd rfl (Or.inl rfl)) (ao (aB (i:=11) bC.nd rfl (Or.inl rfl) (cu (aj (cX (K:=K) (pl:=_) rfl aG iW (hr.mono (by decide)) pass0 (qv 0) (aj (qv 1) (aj (qv 10) ak))) (aj (cX (K:=K) (pl:=_) rfl aG iB (hr.mono (by decide)) pass0 (qv 0) (aj (qv 1) (aj (bD hu (qv 5) (qv 10) (fun _ _=>rfl)) (aj (aY bh (qv 8) (qv 10) (fun _ _=>rfl)) ak)))) ak))))
   (aq (bM (p8 (qb (aA lX (hr.mono (by decide)) pass0 (aj (qv 11) (aj (cu (aj (aY bh (qv 8) (qv 10) (fun _ _=>rfl)) (aj (qv 10) ak))) ak))))) (aq (aU mK)) bF))))
   (aq (aU mK))))))))))),?_⟩
  have few:=hb.few
  walk_at "wp"
  refine ⟨rw,ws,460,rfl,bA.of hrw,hb,by omega,fun d ps H2 hd hd2 hms h2=>?_⟩
  walk_at "wp"
  refine Sx.map (f:=fun n=>vI (hm (fall ws) n)) (aD (by decide)) (fun n H3 R hn h3 hR=>?_) (fun q H3 hq hq3 h3=>?_)
  ·walk_at "wp"
   have:=DGet.k (k:=Sum.inl ((n:Nat):Int)) (h3 _ _ hd2)
   rw [cF,hms.get (by omega)] at this
   exact ⟨_,this,hR _ (Same.refl _)⟩
  refine MN (ns:=Ep ws 460) rfl rfl (SqL.of (by rw [aaA];exact hq3)) (by rw [V0];decide) (fun ms nd hs=>V1 hb nd hs) (fun so sl H4 ho4 hm4 hsl W2 h4=>?_)
  rw [V2 hb (fun M hM=>by have:=X8 hM;omega) ho4 hm4,Qt] at W2
  walk_at "wp"
  refine ⟨by decide,fun z hz=>⟨_,bA.of (Same.new hz _ _ W2),_,upd_same,?_⟩⟩
  rw [List.length_map]
  refine ⟨by omega,by omega,by rw [List.length_singleton,Nat.one_mul];exact Nat.le_of_lt (aD (by omega)),fun p1 hp1=>?_⟩
  rw [yZ]
  refine ⟨by decide,fun p2 hp2=>?_⟩
  have s5:Same H4 (upd (upd (upd H4 z (.lst [.int 0])) p1 (.lst ((aW ws).map fun _=>vI 0))) p2 (.lst [])):=((Same.new hz).trans (Same.new hp1)).trans (Same.new hp2)
  have n12:p1≠p2:=ne_of_none upd_same hp2
  have d5:(upd (upd (upd H4 z (.lst [.int 0])) p1 (.lst ((aW ws).map fun _=>vI 0))) p2 (.lst [])) p1=some (.lst ((aW ws).map fun _=>vI 0)):=by rw [upd_ne n12,upd_same]
  have q5:(upd (upd (upd H4 z (.lst [.int 0])) p1 (.lst ((aW ws).map fun _=>vI 0))) p2 (.lst [])) p2=some (.lst []):=upd_same
  have f1:H4 p1=none:=(Same.new hz).free hp1
  have f2:H4 p2=none:=((Same.new hz).trans (Same.new hp1)).free hp2
  generalize upd (upd (upd H4 z (.lst [.int 0])) p1 (.lst ((aW ws).map fun _=>vI 0))) p2 (.lst [])=H5 at s5 d5 q5
  refine Rv.at (xs:=(aW ws).map vI) (bA.of (s5 _ _ W2)) (by rw [List.length_map];exact aD (by omega)) (fun D i ys H6=>∃ ps:List Addr,ys=ps.map V.ref∧ps.length=i∧∀ (j:Nat) p M,ps[j]? = some p→(aW ws)[j]? = some M→p≠D∧H6 p=some (.tup [vI M,vI 0])) (fun D hD=>⟨[],rfl,rfl,fun j p M e _=>by simp at e⟩) ?_ ?_
  ·rintro D i x ys H6 R hx hD hD6 hys ⟨ps,rfl,hpl,hps⟩ Zv hR
   rw [List.getElem?_map,Option.map_eq_some_iff] at hx
   obtain ⟨M,hM,rfl⟩:=hx
   walk_at "wp"
   refine ⟨by decide,fun t ht=>hR _ _ (Same.new ht _ _ hD6) (Zv.trans (Same.new ht)) ⟨ps++[t],by rw [List.map_append];rfl,by rw [List.length_append,hpl];rfl,fun j p M' e1 e2=>?_⟩⟩
   have tD:t≠D:=Ne.symm (ne_of_none hD6 ht)
   by_cases hj:j<ps.length
   ·rw [List.getElem?_append_left hj] at e1
    obtain ⟨a1,a2⟩:=hps j p M' e1 e2
    exact ⟨a1,by rw [upd_ne a1,upd_ne (ne_of_none a2 ht)];exact a2⟩
   ·rw [List.getElem?_append_right (by omega)] at e1
    have hj2:j=i:=by
     have:=(List.getElem?_eq_some_iff.mp e1).1
     rw [List.length_singleton] at this
     omega
    subst hj2
    rw [hM] at e2
    cases e2
    rw [hpl,Nat.sub_self] at e1
    cases e1
    exact ⟨tD,by rw [upd_ne tD,upd_same];rfl⟩
  rintro D ys H6 hD hD6 hys ⟨ps,rfl,hpl,hps⟩ Zv
  walk_at "wp"
  rw [List.length_map] at hpl
  refine ⟨ps,jz ((aW ws).map fun x=>(x,vI 0)),hD6,by rw [je,List.length_map,hpl],fun i p kv e1 e2=>?_,?_,by rw [je,List.length_map];omega,fun e he=>?_⟩
  ·unfold jz at e2
   rw [List.map_map,List.getElem?_map,Option.map_eq_some_iff] at e2
   obtain ⟨M,hM,rfl⟩:=e2
   exact (hps i p M e1 hM).2
  ·unfold jz
   rw [List.map_map,List.map_map]
   exact (qg ws).map _ fun a b n z=>n (by have:=Sum.inl.inj (show (Sum.inl (a:Int):Key)=Sum.inl (b:Int) from z);omega)
  have s7:Same H4 (upd H6 e (.dK (jz ((aW ws).map fun x=>(x,vI 0))))):=(s5.trans Zv).trans (Same.new he)
  have e7:upd H6 e (.dK (jz ((aW ws).map fun x=>(x,vI 0)))) e=some (.dK (jz ((aW ws).map fun x=>(x,vI 0)))):=upd_same
  have d7:=Same.new (o:=.dK (jz ((aW ws).map fun x=>(x,vI 0)))) he _ _ (Zv _ _ d5)
  have q7:=Same.new (o:=.dK (jz ((aW ws).map fun x=>(x,vI 0)))) he _ _ (Zv _ _ q5)
  have f3:H4 e=none:=(s5.trans Zv).free he
  have ne1:p1≠e:=ne_of_none (Zv _ _ d5) he
  have ne2:p2≠e:=ne_of_none (Zv _ _ q5) he
  generalize upd H6 e (.dK (jz ((aW ws).map fun x=>(x,vI 0))))=H7 at s7 e7 d7 q7
  have h14:Same H H4:=(h2.trans h3).trans h4
  have W0:=h4 _ _ (h3 _ _ hd2)
  walk_at "wp"
  refine nH.go (fun i σ H8=>(∃ v,σ=[some (.ref h),some (.str nm),some (.ref rw),some (vI lim),some (.ref nl),some (.ref d),some (.ref sl),some (.ref p1),some (.ref p2),some (.ref e),v,none])∧H8 p1=some (.lst ((aW ws).map fun x=>vI (cnt ws (min i lim) x)))∧H8 p2=some (.lst ((List.range i).map fun j=>vI (cnt ws j (hm (fall ws) j))))∧H8 e=some (.dK (jz ((aW ws).map fun x=>(x,vI (cnt ws i x)))))∧Same H4 H8) ⟨⟨none,rfl⟩,by rw [Nat.zero_min];exact d7,q7,e7,s7⟩ ?_ ?_
  ·rintro i σ H8 N hi ⟨⟨v,rfl⟩,d8,q8,e8,s8⟩ hN
   have hmem:=hb.sZ i
   have hg:∀ X:Hp,Same H4 X→DGet X d (vI i) (some (vI (hm (fall ws) i))):=fun X sX=>by
    have:=DGet.k (k:=Sum.inl ((i:Nat):Int)) (sX _ _ W0)
    rw [cF,hms.get (by omega)] at this
    exact this
   have hg2:∀ (X:Hp) (G:Nat→V),X e=some (.dK (jz ((aW ws).map fun x=>(x,G x))))→DGet X e (vI (hm (fall ws) i)) (some (G (hm (fall ws) i))):=fun X G eX=>by
    have:=DGet.k (k:=Sum.inl ((hm (fall ws) i:Nat):Int)) eX
    rw [cF,qm (F:=G) hmem] at this
    exact this
   walk_at "wp"
   refine ⟨⟨_,SqL.of q8⟩,_,hg _ s8,_,hg2 _ _ e8,_,q8,by rw [List.length_map,List.length_range];exact aD (by omega),?_⟩
   have s9:Same H4 (upd H8 p2 (.lst (((List.range i).map fun j=>vI (cnt ws j (hm (fall ws) j)))++[vI (cnt ws i (hm (fall ws) i))]))):=fun b o e'=>by rw [upd_ne (ne_of_none e' f2)];exact s8 _ _ e'
   have q9:upd H8 p2 (.lst (((List.range i).map fun j=>vI (cnt ws j (hm (fall ws) j)))++[vI (cnt ws i (hm (fall ws) i))])) p2=some (.lst ((List.range (i+1)).map fun j=>vI (cnt ws j (hm (fall ws) j)))):=by rw [upd_same,List.range_succ,List.map_append];rfl
   have d9:upd H8 p2 (.lst (((List.range i).map fun j=>vI (cnt ws j (hm (fall ws) j)))++[vI (cnt ws i (hm (fall ws) i))])) p1=_:=(upd_ne n12).trans d8
   have e9:upd H8 p2 (.lst (((List.range i).map fun j=>vI (cnt ws j (hm (fall ws) j)))++[vI (cnt ws i (hm (fall ws) i))])) e=_:=(upd_ne (Ne.symm ne2)).trans e8
   generalize upd H8 p2 (.lst (((List.range i).map fun j=>vI (cnt ws j (hm (fall ws) j)))++[vI (cnt ws i (hm (fall ws) i))]))=H9 at s9 q9 d9 e9
   refine ⟨_,hg _ s9,_,hg2 _ _ e9,?_⟩
   walk_at "wp"
   refine ⟨_,hg _ s9,_,DPut.k (k:=Sum.inl ((hm (fall ws) i:Nat):Int)) e9 (by rw [je,List.length_map];exact aD (by omega)),?_⟩
   rw [Qx (F:=fun x=>vI (cnt ws i x)) hmem]
   have er:(jz ((aW ws).map fun x=>(x,if x=hm (fall ws) i then V.int ((cnt ws i (hm (fall ws) i):Nat)+1) else vI (cnt ws i x))))=jz ((aW ws).map fun x=>(x,vI (cnt ws (i+1) x))):=by
    congr 1
    refine List.map_congr_left fun x _=>?_
    rw [gU]
    by_cases e':x=hm (fall ws) i
    ·rw [if_pos e',if_pos e'.symm,e'];rfl
    ·rw [if_neg e',if_neg fun z=>e' z.symm];rfl
   rw [er]
   have SN:Same H4 (upd H9 e (.dK (jz ((aW ws).map fun x=>(x,vI (cnt ws (i+1) x)))))):=fun b o e'=>by rw [upd_ne (ne_of_none e' f3)];exact s9 _ _ e'
   have e10:upd H9 e (.dK (jz ((aW ws).map fun x=>(x,vI (cnt ws (i+1) x))))) e=_:=upd_same
   have d10:upd H9 e (.dK (jz ((aW ws).map fun x=>(x,vI (cnt ws (i+1) x))))) p1=_:=(upd_ne ne1).trans d9
   have q10:upd H9 e (.dK (jz ((aW ws).map fun x=>(x,vI (cnt ws (i+1) x))))) p2=_:=(upd_ne ne2).trans q9
   generalize upd H9 e (.dK (jz ((aW ws).map fun x=>(x,vI (cnt ws (i+1) x)))))=H10 at SN e10 d10 q10
   refine ite2 (fun c=>?_) (fun c=>?_)
   ·have hil:i<lim:=by omega
    rw [Nat.min_eq_left (by omega)] at d10
    refine ⟨_,hg _ SN,_,hg2 _ (fun x=>vI (cnt ws (i+1) x)) e10,⟨_,SqL.of (SN _ _ W2)⟩,_,hg _ SN,?_⟩
    walk_at "wp"
    refine ⟨(aW ws).map (fun d:Nat=>(d:Int)),by rw [Qt];exact SN _ _ W2,ix ws (hm (fall ws) i),Qy hmem,Gy,?_⟩
    walk_at "wp"
    refine ⟨_,d10,ix ws (hm (fall ws) i),jU (by rw [List.length_map];exact Qm hmem),hN _ _ ⟨⟨_,rfl⟩,?_,?_,?_,fun b o e'=>by rw [upd_ne (ne_of_none e' f1)];exact SN _ _ e'⟩⟩
    ·rw [upd_same,Cu (qg ws) (ql hmem),Nat.min_eq_left (by omega)]
     congr 2
     refine List.map_congr_left fun x _=>?_
     by_cases e':x=hm (fall ws) i
     ·rw [if_pos e',e']
     ·rw [if_neg e',gU,if_neg fun z=>e' z.symm];rfl
    ·rw [upd_ne (Ne.symm n12)];exact q10
    ·rw [upd_ne (Ne.symm ne1)];exact e10
   ·rw [show min i lim=min (i+1) lim by omega] at d10
    exact hN _ _ ⟨⟨_,rfl⟩,d10,q10,e10,SN⟩
  rintro σ H8 ⟨⟨v,rfl⟩,d8,q8,e8,s8⟩
  rw [Nat.min_eq_right hlim] at d8
  have s08:=h14.trans s8
  obtain ⟨dx,dd,_,_,_,_,_,hh,_⟩:=id hK
  walk_at "wp"
  refine ⟨_,_,s08 _ _ hh,by rfl,h,nm,ws,lim,rfl,hK.same s08,hb,hlim,fun c1 H9 fc1 hc1 s9=>?_⟩
  have acv:((aW ws).map fun x=>vI (cnt ws lim x))=((aW ws).map fun x=>((cnt ws lim x:Nat):Int)).map V.int:=by rw [List.map_map];rfl
  rw [acv] at hc1 d8
  refine ⟨c1,p1,_,_,rfl,hc1,bA.of (s9 _ _ d8),by rw [List.length_map];omega,?_⟩
  rw [decide_eq_true rfl]
  walk_at "wp"
  have s09:=s08.trans s9
  refine ⟨_,_,s09 _ _ hh,by rfl,h,nm,ws,lim,rfl,hK.same s09,hb,hlim,fun c2 H10 fc2 hc2 SN=>?_⟩
  rw [acv] at hc2
  refine ⟨c2,p1,_,_,rfl,hc2,bA.of (SN _ _ (s9 _ _ d8)),by rw [List.length_map];omega,?_⟩
  rw [decide_eq_true rfl]
  walk_at "wp"
  have YB:=s09.trans SN
  have q10:=SN _ _ (s9 _ _ q8)
  have d10:=SN _ _ (s9 _ _ (s8 _ _ W0))
  refine pW.go (xs:=ns.map vI) (bA.of (YB _ _ hnl)) (fun i σ H11=>(∃ v w,σ=[some (.ref h),some (.str nm),some (.ref rw),some (vI lim),some (.ref nl),some (.ref d),some (.ref sl),some (.ref p1),some (.ref p2),some (.ref e),v,w])∧Same H10 H11) ⟨⟨_,_,rfl⟩,Same.refl _⟩ ?_ ?_ ?_
  ·rintro i σ H11 _ ⟨_,s11⟩;exact s11
  ·rintro i x σ H11 N hx ⟨⟨v,w,rfl⟩,s11⟩ hN
   rw [List.getElem?_map,Option.map_eq_some_iff] at hx
   obtain ⟨n,hn,rfl⟩:=hx
   have hn4:=hns n (List.mem_of_getElem? hn)
   have acw:=YB.trans s11
   walk_at "wp"
   refine ⟨_,_,acw _ _ hh,by rfl,h,nm,ws,n,rfl,hK.same acw,hb,hn4,fun H12 s12=>?_⟩
   have W3:=s11.trans s12
   have acy:=YB.trans W3
   have hg:DGet H12 d (vI n) (some (vI (hm (fall ws) n))):=by
    have:=DGet.k (k:=Sum.inl ((n:Nat):Int)) (W3 _ _ d10)
    rw [cF,hms.get (by omega)] at this
    exact this
   have pat:atI ((List.range 400).map fun j=>vI (cnt ws j (hm (fall ws) j))) (n:Int)=some (vI (cnt ws n (hm (fall ws) n))):=atI_nat (by rw [List.getElem?_map,List.getElem?_range (by omega)];rfl)
   refine ⟨_,_,acy _ _ hh,by rfl,_,hg,_,bA.of (W3 _ _ q10),_,pat,?_⟩
   refine ⟨h,nm,ws,n,rfl,hK.same acy,hb,hn4,fun H13 s13=>?_⟩
   walk_at "wp"
   refine ⟨by decide,fun t1 ft1=>⟨_,bA.of (Same.new ft1 _ _ (s13 _ _ (W3 _ _ q10))),_,pat,by decide,fun t2 ft2=>?_⟩⟩
   refine ⟨t1,t2,[((cnt ws n (hm (fall ws) n):Nat):Int),(n:Int)],[((cnt ws n (hm (fall ws) n):Nat):Int),(n:Int)],rfl,Same.new ft2 _ _ upd_same,bA.of upd_same,(show 2≤1000000 by decide),?_⟩
   rw [decide_eq_true rfl]
   walk_at "wp"
   exact hN _ _ ⟨⟨_,_,rfl⟩,(W3.trans s13).trans ((Same.new ft1).trans (Same.new ft2))⟩
  ·rintro σ H11 ⟨⟨v,w,rfl⟩,s11⟩
   walk_at "wp"
   exact k _ (YB.trans s11)
theorem zO (T:Txt mg) (F:vJ K "Book" "Book.__init__" gj ["self","worths"]) (bJ:ClsAt K mg "Book") (bR:pB K "Book" "told") (aK:pB K "Book" "worths") :pN P w K mg base:=by
 refine F.aZ ni.2 yg.2 yh (fun vs H Q E h=>?_) (fun f cdv A outer s H vs Q E hr h=>?_) <;> obtain ⟨x,dx,a,ws,rfl,hx,hS,hl,k⟩:=h
 ·rfl
 ·have hu:=hu_of hr
  refine ⟨_,(ao (Lx (K:=K) rfl (qv 0) (gH pU (by rfl) T.vM pR (aj (qv 1) ak)))
   (aq (Lx (K:=K) rfl (qv 0) (cu ak)))),?_⟩
  walk_at "wp"
  refine ⟨_,hS,fun l hlf=>⟨_,_,_,Same.new hlf _ _ hx,bJ.cl,aK,by decide,by decide,fun p hp=>?_⟩⟩
  have hxl:x≠l:=ne_of_none hx hlf
  have hpx:p≠x:=fun e=>by rw [e,upd_same] at hp;cases hp
  rw [upd_ne hpx] at hp
  have hpl:l≠p:=ne_of_none upd_same hp
  have hpf:H p=none:=(Same.new hlf).free hp
  refine ⟨_,_,_,(upd_ne (Ne.symm hpx)).trans upd_same,bJ.cl,bR,(show 1<1000 by decide),k l p _ hlf hpf hpl ?_ ?_ ?_ ?_⟩
  ·rw [upd_same];rfl
  ·rw [upd_ne (Ne.symm hxl),upd_ne hpl,upd_ne (Ne.symm hxl),upd_same]
  ·rw [upd_ne hpx,upd_same]
  ·intro b o hb e
   rw [upd_ne hb,upd_ne (ne_of_none e hpf),upd_ne hb,upd_ne (ne_of_none e hlf)]
   exact e
theorem Fv (T:Txt mg) (F:MethAt K "House" "keep" "House.keep" kh ["self","name","worths"]) (bJ:ClsAt K mg "Book") (aG:ClsAt K mg "House") (aQ:pB K "House" "books") (jE:pN P w K mg base) (aJ:bQ P w K mg base):nO P w K mg base:=by
 refine F.aZ tW.2 Dm.2 Dn (fun vs H Q E h=>?_) (fun f cdv A outer s H vs Q E hr h=>?_) <;> obtain ⟨h,dx,d,a,kvs,nm,ws,rfl,hh,hd,hv,hl,hS,hb,k⟩:=h
 ·rfl
 ·have hu:=hu_of hr
  refine ⟨_,(ao (bM (Va hu (qv 1) (dg (K:=K) rfl (qv 0))) (aq (cW)) bF)
   (ao (bM (aN op_ge (aL Ly (by rfl) T.cQ PySem.boot_len (aj (dg (K:=K) rfl (qv 0)) ak)) (mL T.Ia) (nomark _)) (aq (cW)) bF)
   (ao (aP (aA aJ (hr.mono (by decide)) pass0 (aj (qv 2) ak)))
   (aq (jd hu (dg (K:=K) rfl (qv 0)) (qv 1) (XS (K:=K) rfl bJ jE (hr.mono (by decide)) pass0 (aj (qv 2) ak)) rfl))))),?_⟩
  have hg:DGet H d (.str nm) none:=by
   have:=DGet.k (k:=Sum.inr nm) hd
   rw [hv] at this
   exact this
  walk_at "wp"
  refine ⟨_,_,_,hh,aG.cl,aQ,_,by rfl,?_⟩
  walk_at "wp"
  refine ⟨_,hg,?_⟩
  walk_at "wp"
  refine ⟨_,_,_,hh,aG.cl,aQ,_,by rfl,?_⟩
  walk_at "wp"
  refine ⟨_,hd,?_⟩
  walk_at "wp"
  rw [if_neg (by omega)]
  refine ⟨a,ws,rfl,hS,hb.two,hb.top,hb.le,fun b bx hbf hbx hne=>?_⟩
  have hab:∀ c o,H c=some o→upd (upd H bx (.own b)) b (.ins (sW K "Book") bx []) c=some o:=fun c o e=>by
   rw [upd_ne (ne_of_none e hbf),upd_ne (ne_of_none e hbx)];exact e
  refine ⟨b,bx,a,ws,rfl,upd_same,Same.sq hab hS,hb.top,fun wl tl H2 hwl htl hwt hb2 Ni Nj h2=>⟨rfl,?_⟩⟩
  have hcb:∀ {c:Addr} {o:HO},H c=some o→c≠b:=fun e=>ne_of_none e hbf
  have hh2:=h2 _ _ (hcb hh) (hab _ _ hh)
  have hd2:=h2 _ _ (hcb hd) (hab _ _ hd)
  refine ⟨_,_,_,hh2,aG.cl,aQ,_,by rfl,?_⟩
  walk_at "wp"
  refine ⟨_,DPut.k (k:=Sum.inr nm) hd2 (aD (by omega)),?_⟩
  rw [putK_new _ hv]
  have hfree:∀ {c:Addr},upd (upd H bx (.own b)) b (.ins (sW K "Book") bx []) c=none→H c=none:=fun {c} e=>by
   cases z:H c with
   | none=>rfl
   | some o=>rw [hab _ _ z] at e;cases e
  have hwd:wl≠d:=fun e=>by rw [e,hd2] at Ni;cases Ni
  have htd:tl≠d:=fun e=>by rw [e,hd2] at Nj;cases Nj
  have hbd:b≠d:=fun e=>by rw [e,hd2] at hb2;cases hb2
  refine k b bx wl tl _ hbf (hfree hwl) (hfree htl) hwt upd_same ?_ ?_ ?_ fun c o n e=>?_
  ·rw [upd_ne hbd];exact hb2
  ·rw [upd_ne hwd];exact Ni
  ·rw [upd_ne htd];exact Nj
  ·rw [upd_ne n];exact h2 _ _ (hcb e) (hab _ _ e)
theorem Nk (T:Txt mg) (F:aM K mg "_law_at" uQ ["_law_script","_law_k"]) :vX P w K mg base:=by
 refine F.aZ z8.2 KH.2 KJ (fun vs H Q E h=>?_) (fun f cdv A outer s H vs Q E hr h=>?_) <;> obtain ⟨a,ns,i,rfl,hS,k⟩:=h
 ·rfl
 ·have hu:=hu_of hr
  refine ⟨_,(ao (bM (aN mH (qv 1) (aL aH (by rfl) T.cQ PySem.boot_len (aj (qv 0) ak)) (nomark _)) (aq (aU (aY bh (qv 0) (qv 1) (fun _ _=>rfl)))) bF)
   (aq (aU au))),?_⟩
  walk_at "wp"
  refine ⟨_,hS,ite2 (fun c=>⟨_,hS,.int (cell ns i),atI_nat ?_,k⟩) (fun c=>?_)⟩
  ·rw [List.length_map] at c
   unfold cell
   rw [List.getElem?_map,List.getD_eq_getElem?_getD,List.getElem?_eq_getElem (by omega)]
   rfl
  ·rw [List.length_map] at c
   unfold cell at k
   rw [List.getD_eq_getElem?_getD,List.getElem?_eq_none (by omega)] at k
   exact k
theorem Fw (T:Txt mg) (F:aM K mg "_law_mixed" kj ["_law_cell","_law_place"]) :jt P w K mg base:=by
 refine F.aZ tX.2 Dq.2 tY (fun vs H Q E h=>?_) (fun f cdv A outer s H vs Q E hr h=>?_) <;> obtain ⟨c,p,rfl,k⟩:=h
 ·rfl
 ·have hu:=hu_of hr
  refine ⟨_,(ao (aB (i:=2) tY.nd rfl (Or.inl rfl) (aO op_mod (aO sO (aO op_add (aO op_add (aO op_mod (qv 0) au) (aO sO au (qv 1))) au) au) au))
   (aq (aU (aO op_mod (aO sO (aO op_add (qv 2) (aO sO au (qv 1))) au) au)))),?_⟩
  walk_at "wp"
  exact ⟨.inl ⟨by decide,by decide⟩,.inr ⟨by decide,by decide⟩,.inl ⟨by decide,by decide⟩,.inr ⟨by decide,by decide⟩,k⟩
theorem DX (T:Txt mg) (F:MethAt K "House" "names" "House.names" jo ["self"]) (aG:ClsAt K mg "House") (aQ:pB K "House" "books") :um P w K mg base:=by
 refine F.aZ rT.2 Ba.2 Bb (fun vs H Q E h=>?_) (fun f cdv A outer s H vs Q E hr h=>?_) <;> obtain ⟨h,dx,d,kvs,rfl,hh,hd,hl,k⟩:=h
 ·rfl
 ·have hu:=hu_of hr
  refine ⟨_,(aq (aU (gH (Lz rfl) (by rfl) T.vM pR (aj (dg (K:=K) rfl (qv 0)) ak)))),?_⟩
  walk_at "wp"
  refine ⟨_,_,_,hh,aG.cl,aQ,_,by rfl,?_⟩
  walk_at "wp"
  exact ⟨_,hd,fun p hp=>k p _ hp upd_same (Same.new hp)⟩
theorem zP (T:Txt mg) (F:aM K mg "check_figures" gk ["row","base"]) :pO P w K mg base:=by
 refine F.aZ nj.2 yj.2 nq (fun vs H Q E h=>?_) (fun f cdv A outer s H vs Q E hr h=>?_) <;> obtain ⟨a,rs,b,rfl,hS,h1,k⟩:=h
 ·rfl
 ·have hu:=hu_of hr
  refine ⟨_,(aq (cB PassesOwn.never rfl (o8 (qv 0)) (aR (i:=2) nq.nd rfl (Or.inl rfl)) (aq (bM (wJ (aN mH (qv 2) au (nomark _)) (qd (aN op_ge (qv 2) (qv 1) (nomark _)))).qt (aq (cW)) bF)))),?_⟩
  walk_at "wp"
  refine pW.go hS (fun i σ H2=>∃ v,σ=[some (.ref a),some (vI b),v]∧H2=H) ⟨none,rfl,rfl⟩ (fun i σ H2 _ ⟨_,_,e⟩=>e ▸ Same.refl _) ?_ ?_
  ·rintro i x σ H2 N hx ⟨v,rfl,rfl⟩ hN
   rw [List.getElem?_map,Option.map_eq_some_iff] at hx
   obtain ⟨d,hd,rfl⟩:=hx
   have:=h1 d (List.mem_of_getElem? hd)
   walk_at "wp"
   rw [if_neg (by omega),if_neg (by omega)]
   exact hN _ _ ⟨_,rfl,rfl⟩
  ·rintro σ H2 ⟨v,rfl,rfl⟩
   exact k
theorem Fx (T:Txt mg) (F:MethAt K "House" "tell" "House.tell" kI ["self","name","figure","worth"]) (bJ:ClsAt K mg "Book") (aG:ClsAt K mg "House") (bR:pB K "Book" "told") (aK:pB K "Book" "worths") (dO:lH P w K mg base) (jF:pO P w K mg base) (aF:bL P w K mg base):vC P w K mg base:=by
 refine F.aZ tZ.2 Ds.2 lE (fun vs H Q E h=>?_) (fun f cdv A outer s H vs Q E hr h=>?_) <;> obtain ⟨h,dx,d,b,bx,wl,tl,kvs,nm,ws,ts,f,w,rfl,hh,hd,hv,hb,hwl,htl,hne,hf,Zf,hw,hts,k⟩:=h
 ·rfl
 ·have hu:=hu_of hr
  refine ⟨_,(ao (aB (i:=4) lE.nd rfl (Or.inl rfl) (cX (K:=K) (pl:=_) rfl aG aF (hr.mono (by decide)) pass0 (qv 0) (aj (qv 1) ak)))
   (ao (aP (aA jF (hr.mono (by decide)) pass0 (aj (cu (aj (qv 2) ak)) (aj (aL aH (by rfl) T.cQ PySem.boot_len (aj (dg (K:=K) rfl (qv 4)) ak)) ak))))
   (ao (aP (aA dO (hr.mono (by decide)) pass0 (aj (qv 3) ak)))
   (ao (aB (i:=5) lE.nd rfl (Or.inl rfl) (aY bh (dg (K:=K) rfl (qv 4)) (qv 2) (fun _ _=>rfl)))
   (ao (BR (qv 3) (BW (dg (K:=K) rfl (qv 4)) (qv 2) set_list))
   (ao (aP (fU (K:=K) rfl PySem.F.plainAttrs_list PySem.F.slot_list_append PySem.F.type_list_append bY (dg (K:=K) rfl (qv 4)) (aj (Hh (aj (qv 2) (aj (qv 5) (aj (qv 3) ak)))) ak)))
   (ao (bM (aN uY (aL aH (by rfl) T.cQ PySem.boot_len (aj (dg (K:=K) rfl (qv 4)) ak)) (mL T.Kr) (nomark _)) (aq (aP (fU (K:=K) rfl PySem.F.plainAttrs_list PySem.F.slot_list_pop PySem.F.type_list_pop TF (dg (K:=K) rfl (qv 4)) (aj au ak)))) bF)
   (aq (aU (qv 5)))))))))),?_⟩
  walk_at "wp"
  refine ⟨_,_,hh,by rfl,h,dx,d,b,kvs,nm,rfl,hh,hd,hv,?_⟩
  walk_at "wp"
  refine ⟨by decide,fun p hp=>?_⟩
  have h1:Same H (upd H p (.lst [vI f])):=Same.new hp
  have hp1:upd H p (.lst [vI f]) p=some (.lst ([f].map vI)):=upd_same
  generalize upd H p (.lst [vI f])=H1 at h1 hp1
  have hb1:=h1 _ _ hb
  have aa3:=h1 _ _ hwl
  have adT:=h1 _ _ htl
  refine ⟨_,_,_,hb1,bJ.cl,aK,_,by rfl,?_⟩
  walk_at "wp"
  refine ⟨_,bA.of aa3,?_⟩
  rw [List.length_map]
  refine ⟨p,[f],ws.length,rfl,bA.of hp1,fun x hx=>by rw [List.mem_singleton.mp hx];exact hf,?_⟩
  refine ⟨w,rfl,hw,?_⟩
  refine ⟨_,_,_,hb1,bJ.cl,aK,_,by rfl,?_⟩
  walk_at "wp"
  refine ⟨_,bA.of aa3,_,mO hf,?_⟩
  refine ⟨_,_,_,hb1,bJ.cl,aK,_,by rfl,?_⟩
  walk_at "wp"
  refine ⟨_,aa3,f,jU (by rw [List.length_map];exact hf),?_⟩
  have hbw:b≠wl:=fun e=>by rw [e,hwl] at hb;cases hb
  have hbt:b≠tl:=fun e=>by rw [e,htl] at hb;cases hb
  have h2:∀ b o,b≠wl→H1 b=some o→upd H1 wl (.lst ((ws.map vI).set f (vI w))) b=some o:=fun b o hn e=>by rw [upd_ne hn];exact e
  have Ni:upd H1 wl (.lst ((ws.map vI).set f (vI w))) wl=some (.lst ((ws.set f w).map vI)):=by rw [upd_same,←List.map_set]
  generalize upd H1 wl (.lst ((ws.map vI).set f (vI w)))=H2 at h2 Ni
  have hb2:=h2 _ _ hbw hb1
  have Nj:=h2 _ _ (Ne.symm hne) adT
  refine ⟨_,_,_,hb2,bJ.cl,bR,_,by rfl,?_⟩
  walk_at "wp"
  refine ⟨⟨_,SqL.of Nj⟩,by decide,fun r hr=>⟨_,Same.new hr _ _ Nj,by rw [List.length_map];exact aD (by omega),?_⟩⟩
  have hrw:wl≠r:=ne_of_none Ni hr
  have hrt:r≠tl:=fun e=>by rw [e,Nj] at hr;cases hr
  have hrH:H r=none:=by
   cases e:H r with
   | none=>rfl
   | some o=>rw [h2 _ _ (Ne.symm hrw) (h1 _ _ e)] at hr;cases hr
  have h3:∀ c o,c≠wl→c≠tl→H c=some o→upd (upd H2 r (.tup [vI f,vI (wt ws f),vI w])) tl (.lst (ts.map V.ref++[.ref r])) c=some o:=fun c o n1 n2 e=>by
   rw [upd_ne n2,upd_ne (ne_of_none e hrH)];exact h2 _ _ n1 (h1 _ _ e)
  have Yw:upd (upd H2 r (.tup [vI f,vI (wt ws f),vI w])) tl (.lst (ts.map V.ref++[.ref r])) r=some (.tup [vI f,vI (wt ws f),vI w]):=by rw [upd_ne hrt,upd_same]
  have hw3:upd (upd H2 r (.tup [vI f,vI (wt ws f),vI w])) tl (.lst (ts.map V.ref++[.ref r])) wl=some (.lst ((ws.set f w).map vI)):=by rw [upd_ne hne,upd_ne hrw];exact Ni
  have ht3:upd (upd H2 r (.tup [vI f,vI (wt ws f),vI w])) tl (.lst (ts.map V.ref++[.ref r])) tl=some (.lst ((ts++[r]).map V.ref)):=by rw [upd_same,List.map_append];rfl
  generalize upd (upd H2 r (.tup [vI f,vI (wt ws f),vI w])) tl (.lst (ts.map V.ref++[.ref r]))=H3 at h3 Yw hw3 ht3
  have hb3:=h3 _ _ hbw hbt hb
  refine ⟨_,_,_,hb3,bJ.cl,bR,_,by rfl,?_⟩
  walk_at "wp"
  refine ⟨_,bA.of ht3,?_⟩
  rw [List.length_map,List.length_append,List.length_singleton]
  walk_at "wp"
  refine ite2 (fun c=>?_) (fun c=>?_)
  ·have acB:ts.length=200:=by omega
   refine ⟨_,_,_,hb3,bJ.cl,bR,_,by rfl,?_⟩
   walk_at "wp"
   obtain ⟨y,hy⟩:∃ y,(ts++[r])[0]? = some y:=⟨_,List.getElem?_eq_getElem (by rw [List.length_append,List.length_singleton];omega)⟩
   refine ⟨⟨_,SqL.of ht3⟩,_,ht3,0,by rw [List.length_map,List.length_append,acB];rfl,.ref y,by rw [List.getElem?_map,hy];rfl,k r _ hrH ?_ ?_ ?_ fun c o n1 n2 e=>?_⟩
   ·rw [upd_ne hrt];exact Yw
   ·rw [upd_ne hne];exact hw3
   ·rw [upd_same,acB,List.eraseIdx_zero,List.drop_one,List.map_tail]
   ·rw [upd_ne n2];exact h3 c o n1 n2 e
  ·refine k r H3 hrH Yw hw3 ?_ h3
   rw [ht3,show ts.length - 199=0 by omega,List.drop_zero]
theorem wj (T:Txt mg) (F:MethAt K "House" "take_back" "House.take_back" eF ["self","name"]) (bJ:ClsAt K mg "Book") (aG:ClsAt K mg "House") (bR:pB K "Book" "told") (aK:pB K "Book" "worths") (aF:bL P w K mg base):lQ P w K mg base:=by
 refine F.aZ jT.2 uX.2 fJ (fun vs H Q E h=>?_) (fun f cdv A outer s H vs Q E hr h=>?_) <;> obtain ⟨h,dx,d,b,bx,wl,tl,kvs,nm,ws,ts,r,f,x,w,rfl,hh,hd,hv,hb,hwl,htl,hne,hrr,hf,k⟩:=h
 ·rfl
 ·have hu:=hu_of hr
  refine ⟨_,(ao (aB (i:=2) fJ.nd rfl (Or.inl rfl) (cX (K:=K) (pl:=_) rfl aG aF (hr.mono (by decide)) pass0 (qv 0) (aj (qv 1) ak)))
   (ao (bM (aN op_eq (aL aH (by rfl) T.cQ PySem.boot_len (aj (dg (K:=K) rfl (qv 2)) ak)) au (nomark _)) (aq (cW)) bF)
   (ao (aB (i:=3) fJ.nd rfl (Or.inl rfl) (Hi (K:=K) rfl PySem.F.plainAttrs_list PySem.F.slot_list_pop PySem.F.type_list_pop Tw (dg (K:=K) rfl (qv 2))))
   (ao (BR (aY bh (qv 3) au (fun _ _=>rfl)) (BW (dg (K:=K) rfl (qv 2)) (aY bh (qv 3) au (fun _ _=>rfl)) set_list))
   (aq (aU (Hh (aj (aY bh (qv 3) au (fun _ _=>rfl)) (aj (aY bh (qv 3) au (fun _ _=>rfl)) ak))))))))),?_⟩
  walk_at "wp"
  refine ⟨_,_,hh,by rfl,h,dx,d,b,kvs,nm,rfl,hh,hd,hv,?_⟩
  walk_at "wp"
  refine ⟨_,_,_,hb,bJ.cl,bR,_,by rfl,?_⟩
  walk_at "wp"
  refine ⟨_,bA.of htl,?_⟩
  rw [List.length_map,List.length_append,List.length_singleton]
  walk_at "wp"
  rw [if_neg (by omega)]
  refine ⟨_,_,_,hb,bJ.cl,bR,_,by rfl,?_⟩
  walk_at "wp"
  have hbw:b≠wl:=fun e=>by rw [e,hwl] at hb;cases hb
  have hbt:b≠tl:=fun e=>by rw [e,htl] at hb;cases hb
  have hrw:r≠wl:=fun e=>by rw [e,hwl] at hrr;cases hrr
  have hrt:r≠tl:=fun e=>by rw [e,htl] at hrr;cases hrr
  refine ⟨⟨_,SqL.of htl⟩,_,htl,.ref r,by rw [List.length_map,List.length_append,List.length_singleton,Nat.add_sub_cancel,List.getElem?_map,List.getElem?_append_right (Nat.le_refl _),Nat.sub_self];rfl,?_⟩
  rw [List.map_append,show [r].map V.ref=[V.ref r] from rfl,List.dropLast_concat]
  have h1:∀ c o,c≠tl→H c=some o→upd H tl (.lst (ts.map V.ref)) c=some o:=fun c o n e=>by rw [upd_ne n];exact e
  have ht1:upd H tl (.lst (ts.map V.ref)) tl=some (.lst (ts.map V.ref)):=upd_same
  have hf1:∀ c,upd H tl (.lst (ts.map V.ref)) c=none→H c=none:=fun c e=>by
   by_cases z:c=tl
   ·rw [z,upd_same] at e;cases e
   ·rw [upd_ne z] at e;exact e
  generalize upd H tl (.lst (ts.map V.ref))=H1 at h1 ht1 hf1
  have hr1:=h1 _ _ hrt hrr
  have hb1:=h1 _ _ hbt hb
  have hw1:=h1 _ _ hne hwl
  walk_at "wp"
  refine ⟨_,bA.ofT hr1,_,rfl,?_⟩
  refine ⟨_,_,_,hb1,bJ.cl,aK,_,by rfl,?_⟩
  refine ⟨_,bA.ofT hr1,_,rfl,?_⟩
  walk_at "wp"
  refine ⟨_,hw1,f,jU (by rw [List.length_map];exact hf),?_⟩
  have hr2:upd H1 wl (.lst ((ws.map vI).set f (vI x))) r=some (.tup [vI f,vI x,vI w]):=by rw [upd_ne hrw];exact hr1
  refine ⟨_,bA.ofT hr2,_,rfl,?_⟩
  refine ⟨_,bA.ofT hr2,_,rfl,?_⟩
  walk_at "wp"
  refine ⟨by decide,fun p hp=>?_⟩
  have K5:p≠wl:=fun e=>by rw [e,upd_same] at hp;cases hp
  rw [upd_ne K5] at hp
  have hpt:p≠tl:=fun e=>by rw [e,ht1] at hp;cases hp
  refine k p _ (hf1 p hp) upd_same ?_ ?_ fun c o n1 n2 e=>?_
  ·rw [upd_ne (Ne.symm K5),upd_same,←List.map_set]
  ·rw [upd_ne (Ne.symm hpt),upd_ne (Ne.symm hne)];exact ht1
  ·rw [upd_ne (ne_of_none e (hf1 p hp)),upd_ne n1];exact h1 _ _ n2 e
theorem Fy (T:Txt mg) (F:MethAt K "House" "drop" "House.drop" kJ ["self","name"]) (aG:ClsAt K mg "House") (aQ:pB K "House" "books") (aF:bL P w K mg base):vD P w K mg base:=by
 refine F.aZ uc.2 Dt.2 Du (fun vs H Q E h=>?_) (fun f cdv A outer s H vs Q E hr h=>?_) <;> obtain ⟨h,dx,d,b,kvs,nm,rfl,hh,hd,hv,k⟩:=h
 ·rfl
 ·have hu:=hu_of hr
  refine ⟨_,(ao (aP (cX (K:=K) (pl:=_) rfl aG aF (hr.mono (by decide)) pass0 (qv 0) (aj (qv 1) ak)))
   (aq (aP (Vw (dg (K:=K) rfl (qv 0)) (qv 1))))),?_⟩
  walk_at "wp"
  refine ⟨_,_,hh,by rfl,h,dx,d,b,kvs,nm,rfl,hh,hd,hv,?_⟩
  walk_at "wp"
  refine ⟨_,_,_,hh,aG.cl,aQ,_,by rfl,?_⟩
  walk_at "wp"
  exact ⟨.inl ⟨kvs,.inl hd⟩,kvs,.inr nm,.ref b,hd,rfl,hv,k _ upd_same fun c o n e=>by rw [upd_ne n];exact e⟩
theorem DY (T:Txt mg) (F:aM K mg "_law_played" jq ["_law_house","_law_cells","_law_kept","_law_rows","_law_told"]) (aG:ClsAt K mg "House") (dD:nO P w K mg base) (cj:jt P w K mg base) (qL:vC P w K mg base) (iC:lQ P w K mg base) (qM:vD P w K mg base):uo P w K mg base:=by
 refine F.aZ rU.2 Bc.2 bO (fun vs H Q E h=>?_) (fun f cdv A outer s H vs Q E hr h=>?_) <;> obtain ⟨bB,h,dx,d,Nn,Rd,Td,cl,B,ks,rs,cs,rfl,A,hcl,lcl,hcs,k⟩:=h
 ·rfl
 ·have hu:=hu_of hr
  refine ⟨_,(ao (cB PassesOwn.never rfl (Bm rfl T.mV (aj (qv 1) ak)) (Ho (K:=K) rfl rfl (ju (aR (i:=5) bO.nd rfl (Or.inl rfl)) (ju (aR (i:=6) bO.nd rfl (Or.inl rfl)) Bo))) (ao (aB (i:=7) bO.nd rfl (Or.inl rfl) (aY bh (cu (aj nJ (aj nJ (aj nJ ak)))) (aO op_mod (aO eG (qv 6) au) au) (fun _ _=>rfl)))
   (ao (aB (i:=8) bO.nd rfl (Or.inl rfl) (aO op_mod (qv 6) au))
   (ao (aB (i:=9) bO.nd rfl (Or.inr rfl) (aO op_add (aO eG (qv 6) au) (aA cj (hr.mono (by decide)) pass0 (aj (qv 5) (aj au ak)))))
   (aq (bM (yM (aN mH (qv 8) au (nomark _)) (wI (aN wG (qv 7) (qv 2) (by with_unfolding_all rfl)))).qt (ao (jd hu (qv 3) (qv 7) (BP (x:="_law_figure") ⟨rfl,rfl,rfl,rfl,rfl,rfl,rfl,rfl⟩ rfl (bZ rfl T.cO (aj (aO op_add au (aO op_mod (qv 9) au)) ak)) (fun _ _ _ _=>(aO op_mod (aA cj (hr.mono (by decide)) pass0 (aj (qv 10) (aj (qv 0) ak))) au)) (fun _ _ _ _=>aR (i:=0) (show (["_law_figure","_law_house","_law_cells","_law_kept","_law_rows","_law_told","_law_at_here","_law_cell","_law_name","_law_deed","_law_more","","_law_last"]:List Str).Nodup by decide +kernel) rfl (Or.inl rfl) (.inr rfl))) rfl)
   (ao (jd hu (qv 4) (qv 7) (cu ak) rfl)
   (ao (aP (fU (K:=K) rfl PySem.F.plainAttrs_list PySem.F.slot_list_append PySem.F.type_list_append bY (qv 2) (aj (qv 7) ak)))
   (aq (aP (cX (K:=K) (pl:=_) rfl aG dD (hr.mono (by decide)) pass0 (qv 0) (aj (qv 7) (aj (gH pU (by rfl) T.vM pR (aj (bD hu (qv 3) (qv 7) (fun _ _=>rfl)) ak)) ak)))))))) (aq (bM (yM (aN mH (qv 8) au (nomark _)) (wI (aN yJ (qv 7) (qv 2) (by with_unfolding_all rfl)))).qt (ao (aB (i:=10) bO.nd rfl (Or.inl rfl) (aO op_mod (qv 9) (aL aH (by rfl) T.cQ PySem.boot_len (aj (bD hu (qv 3) (qv 7) (fun _ _=>rfl)) ak))))
   (ao (aP (fU (K:=K) rfl PySem.F.plainAttrs_list PySem.F.slot_list_append PySem.F.type_list_append bY (bD hu (qv 4) (qv 7) (fun _ _=>rfl)) (aj (cu (aj (qv 10) (aj (aY bh (bD hu (qv 3) (qv 7) (fun _ _=>rfl)) (qv 10) (fun _ _=>rfl)) ak))) ak)))
   (ao (BR (aO op_mod (aO eG (qv 9) au) au) (BW (bD hu (qv 3) (qv 7) (fun _ _=>rfl)) (qv 10) set_list))
   (aq (aP (cX (K:=K) (pl:=_) rfl aG qL (hr.mono (by decide)) pass0 (qv 0) (aj (qv 7) (aj (qv 10) (aj (aY bh (bD hu (qv 3) (qv 7) (fun _ _=>rfl)) (qv 10) (fun _ _=>rfl)) ak))))))))) (aq (bM (yM (aN op_eq (qv 8) au (nomark _)) (yM (aN yJ (qv 7) (qv 2) (by with_unfolding_all rfl)) (wI (aN (aax hu) (bD hu (qv 4) (qv 7) (fun _ _=>rfl)) (cu ak) (nomark _))))).qt (ao (aB (i:=11) bO.nd rfl (Or.inl rfl) (Hi (K:=K) rfl PySem.F.plainAttrs_list PySem.F.slot_list_pop PySem.F.type_list_pop Tw (bD hu (qv 4) (qv 7) (fun _ _=>rfl))))
   (ao (BR (aY bh (qv 11) au (fun _ _=>rfl)) (BW (bD hu (qv 3) (qv 7) (fun _ _=>rfl)) (aY bh (qv 11) au (fun _ _=>rfl)) set_list))
   (aq (aP (cX (K:=K) (pl:=_) rfl aG iC (hr.mono (by decide)) pass0 (qv 0) (aj (qv 7) ak)))))) (aq (bM (yM (aN op_eq (qv 8) au (nomark _)) (wI (aN yJ (qv 7) (qv 2) (by with_unfolding_all rfl)))).qt (ao (aP (fU (K:=K) rfl PySem.F.plainAttrs_list PySem.F.slot_list_remove PySem.F.type_list_remove RL (qv 2) (aj (qv 7) ak)))
   (aq (aP (cX (K:=K) (pl:=_) rfl aG qM (hr.mono (by decide)) pass0 (qv 0) (aj (qv 7) ak))))) bF))))))))))))
   (aq (aU mK))),?_⟩
  refine Y8 (fun σ H1=>∃ (rZ:Addr→Nat) (t:Nat) (B':Nat→BX) (ks' rs':List Nat),σ.length=12∧HP K rZ H1 t h dx d Nn Rd Td B' ks' rs'∧∀ c o,bB c=0→H c=some o→H1 c=some o) (fun N hN=>?_) ?_
  ·walk_at "wp"
   refine Lr.go (xs:=cs.map V.int) (SqL.of hcl) (fun i σ H1=>∃ (rZ:Addr→Nat) (B':Nat→BX) (ks' rs':List Nat) (v5 v6 v7 v8 v9 v10 v11:Option V),σ=[some (.ref h),some (.ref cl),some (.ref Nn),some (.ref Rd),some (.ref Td),v5,v6,v7,v8,v9,v10,v11]∧HP K rZ H1 i h dx d Nn Rd Td B' ks' rs'∧∀ c o,bB c=0→H c=some o→rZ c=0∧H1 c=some o) ⟨bB,B,ks,rs,_,_,_,_,_,_,_,rfl,A,fun c o l e=>⟨l,e⟩⟩ ?_ ?_ ?_
   ·rintro i σ H1 _ ⟨_,_,_,_,_,_,_,_,_,_,_,_,_,z⟩ o e
    rw [hcl] at e;cases e
    exact (z _ _ lcl hcl).2
   ·rintro i x p σ H1 N1 hx ⟨bU,B,ks,rs,v5,v6,v7,v8,v9,v10,v11,rfl,A,zk⟩ hp hN1
    rw [List.getElem?_map,Option.map_eq_some_iff] at hx
    obtain ⟨c,hc,rfl⟩:=hx
    have afl:i<24:=by have:=(List.getElem?_eq_some_iff.mp hc).1;omega
    simp only [L2.Hq,L2.Ln]
    refine ⟨_,SqT.of upd_same,by rfl,?_⟩
    simp only [L2.Ck,L2.Hr,L2.G9,List.set_cons_zero,List.set_cons_succ]
    have A1:=A.same (Same.new (o:=.tup [.int (i:Int),.int c]) hp) (Nat.le_refl _)
    have zk1:∀ c' o,bB c' = 0→H c' = some o→bU c' = 0∧upd H1 p (.tup [.int (i:Int),.int c]) c' = some o:=fun c' o l e=>⟨(zk c' o l e).1,Same.new hp _ _ (zk c' o l e).2⟩
    generalize upd H1 p (.tup [.int (i:Int),.int c])=H2 at A1 zk1
    refine aat (fun σ H3=>∃ (j e:Nat) (m:Int),σ=[some (.ref h),some (.ref cl),some (.ref Nn),some (.ref Rd),some (.ref Td),some (.int (i:Int)),some (.int c),some (.str (cR j)),some (vI e),some (.int m),v10,v11]∧j<3∧e<8∧HP K bU H3 i h dx d Nn Rd Td B ks rs∧Same H2 H3) (fun N2 Sh=>?_) ?_
    ·walk_at "wp"
     obtain ⟨j,hj0,hj⟩:=dH (x:=c / 8) (m:=3) (by decide)
     obtain ⟨e,he0,he⟩:=dH (x:=c) (m:=8) (by decide)
     rw [show ((3:Nat):Int)=3 from rfl] at hj0
     rw [show ((8:Nat):Int)=8 from rfl] at he0
     have at3:atI [V.str (Str.ofString "p"),V.str (Str.ofString "q"),V.str (Str.ofString "pq")] (j:Int)=some (.str (cR j)):=by
      have:j=0∨j=1∨j=2:=by omega
      rcases this with rfl | rfl | rfl <;> rfl
     refine ⟨by decide,fun q fq=>⟨gQ (by decide) (by decide),_,bA.of upd_same,_,by rw [hj0];exact at3,gQ (by decide) (by decide),_,_,rfl,?_⟩⟩
     walk_at "wp"
     rw [he0]
     exact Sh _ _ ⟨j,e,_,rfl,hj,he,A1.same (Same.new fq) (Nat.le_refl _),Same.new fq⟩
    rintro σ H3 ⟨j,e,m,rfl,hj,he,A3,s3⟩
    try dsimp only
    have l0:=A3.lh;have l1:=A3.ld;have l2:=A3.lN;have l3:=A3.lR;have l4:=A3.lT
    have k4:∀ i∈ks,i<4:=fun i hi=>by have:=A3.k3 i hi;omega
    have r4:∀ i∈rs,i<4:=fun i hi=>by have:=A3.r3 i hi;omega
    have fin:∀ (Sv:Addr→Nat) (B2:Nat→BX) (ks2 rs2:List Nat) (H4:Hp) (w10 w11:Option V),HP K Sv H4 (i+1) h dx d Nn Rd Td B2 ks2 rs2→(∀ c' o,H3 c' = some o→bU c' = 0→Sv c' = 0∧H4 c' = some o)→N1 [some (.ref h),some (.ref cl),some (.ref Nn),some (.ref Rd),some (.ref Td),some (.int (i:Int)),some (.int c),some (.str (cR j)),some (vI e),some (.int m),w10,w11] H4:=fun Sv B2 ks2 rs2 H4 w10 w11 a z=>hN1 _ _ ⟨Sv,B2,ks2,rs2,_,_,_,_,_,_,_,rfl,a,fun c' o l e=>z c' o (s3 _ _ (zk1 c' o l e).2) (zk1 c' o l e).1⟩
    have stay:∀ w10 w11:Option V,N1 [some (.ref h),some (.ref cl),some (.ref Nn),some (.ref Rd),some (.ref Td),some (.int (i:Int)),some (.int c),some (.str (cR j)),some (vI e),some (.int m),w10,w11] H3:=fun w10 w11=>fin bU B ks rs H3 w10 w11 (A3.same (Same.refl _) (Nat.le_succ _)) fun c' o e l=>⟨l,e⟩
    walk_at "wp"
    by_cases hk:j∈ks
    ·have YC:=(QK (by omega) k4).mpr hk
     have hB:=A3.bk j hk
     have b0:=hB.lb;have b1:=hB.lwl;have b2:=hB.ltl;have b3:=hB.lwr;have b4:=hB.ltr
     have gR:∀ (X:Hp) (D:Addr) (F:Nat→V),X D=some (.dK (qp rs F))→DGet X D (.str (cR j)) (some (F j)):=fun X D F e=>by
      have:=DGet.k (k:=Sum.inr (cR j)) e
      rw [gW (by omega) r4,if_pos (A3.kr j hk)] at this
      exact this
     have hv:valV (qp ks fun i=>V.ref (B i).b) (.inr (cR j))=some (.ref (B j).b):=by rw [gW (by omega) k4,if_pos hk]
     have aa4:e<6∨e=6∨e=7:=by omega
     rcases aa4 with he6 | he6 | he6
     ·refine abW (fun _ y=>?_) ?_
      ·refine Bq (bA.of A3.hN) YC ?_
       walk_at "wp"
       exact y
      rw [if_pos (by omega)]
      refine Bq (bA.of A3.hN) YC ?_
      walk_at "wp"
      obtain ⟨f,hf0,hf⟩:=dH (x:=m) (m:=(B j).ws.length) (by have:=hB.bk.two;omega)
      obtain ⟨w,hw0,hw⟩:=dH (x:=m / 16) (m:=51) (by decide)
      rw [show ((51:Nat):Int)=51 from rfl] at hw0
      have two:=hB.bk.two;have top:=hB.bk.top;have le:=hB.le
      refine ⟨_,gR _ _ _ A3.hR,?_⟩
      walk_at "wp"
      refine ⟨_,bA.of hB.hwr,?_⟩
      rw [List.length_map]
      walk_at "wp"
      rw [hf0,hw0]
      refine ⟨by omega,_,gR _ _ _ A3.hT,?_⟩
      walk_at "wp"
      refine ⟨⟨_,SqL.of hB.htr⟩,_,gR _ _ _ A3.hR,?_⟩
      walk_at "wp"
      refine ⟨_,bA.of hB.hwr,_,mO hf,by decide,fun u fu=>?_⟩
      walk_at "wp"
      refine ⟨_,Same.new fu _ _ hB.htr,by rw [List.length_map];exact aD (by omega),?_⟩
      have ut:u≠(B j).tr:=fun z=>by rw [z,hB.htr] at fu;cases fu
      have h4:∀ c o,c≠(B j).tr→H3 c=some o→upd (upd H3 u (.lst [vI f,vI (wt (B j).ws f)])) (B j).tr (.lst ((B j).es.map (fun e=>V.ref e.u)++[.ref u])) c=some o:=fun c o n1 e=>by rw [upd_ne n1];exact Same.new fu _ _ e
      have u4:upd (upd H3 u (.lst [vI f,vI (wt (B j).ws f)])) (B j).tr (.lst ((B j).es.map (fun e=>V.ref e.u)++[.ref u])) u=some (.lst [vI f,vI (wt (B j).ws f)]):=by rw [upd_ne ut,upd_same]
      have t4:upd (upd H3 u (.lst [vI f,vI (wt (B j).ws f)])) (B j).tr (.lst ((B j).es.map (fun e=>V.ref e.u)++[.ref u])) (B j).tr=some (.lst ((B j).es.map (fun e=>V.ref e.u)++[.ref u])):=upd_same
      generalize upd (upd H3 u (.lst [vI f,vI (wt (B j).ws f)])) (B j).tr (.lst ((B j).es.map (fun e=>V.ref e.u)++[.ref u]))=H4 at h4 u4 t4
      have tw:(B j).wr≠(B j).tr:=aV (bB:=bU) (by omega)
      refine ⟨gQ (by decide) (by decide),_,gR _ _ _ (h4 _ _ (aV (bB:=bU) (by omega)) A3.hR),?_⟩
      walk_at "wp"
      refine ⟨_,h4 _ _ tw hB.hwr,f,jU (by rw [List.length_map];exact hf),?_⟩
      have lu:=A3.Zj _ fu
      have uw:u≠(B j).wr:=aV (bB:=bU) (by omega)
      have h5:∀ c o,c≠(B j).tr→c≠(B j).wr→H3 c=some o→upd H4 (B j).wr (.lst (((B j).ws.map vI).set f (vI w))) c=some o:=fun c o n1 n2 e=>by rw [upd_ne n2];exact h4 _ _ n1 e
      have u5:upd H4 (B j).wr (.lst (((B j).ws.map vI).set f (vI w))) u=_:=(upd_ne uw).trans u4
      have t5:upd H4 (B j).wr (.lst (((B j).ws.map vI).set f (vI w))) (B j).tr=_:=(upd_ne (Ne.symm tw)).trans t4
      have w5:upd H4 (B j).wr (.lst (((B j).ws.map vI).set f (vI w))) (B j).wr=some (.lst (((B j).ws.set f w).map vI)):=by rw [upd_same,←List.map_set]
      generalize upd H4 (B j).wr (.lst (((B j).ws.map vI).set f (vI w)))=H5 at h5 u5 t5 w5
      have k5:∀ c o,H3 c=some o→bU c / 10≠j+1→H5 c=some o:=fun c o e n=>h5 _ _ (aV (bB:=bU) (by omega)) (aV (bB:=bU) (by omega)) e
      refine ⟨_,_,k5 _ _ A3.hh (by omega),by rfl,_,gR _ _ _ (k5 _ _ A3.hR (by omega)),?_⟩
      walk_at "wp"
      refine ⟨_,bA.of w5,vI w,atI_nat (by rw [List.getElem?_map,List.getElem?_set_self hf];rfl),?_⟩
      have wl5:=h5 _ _ (aV (bB:=bU) (by omega)) (aV (bB:=bU) (by omega)) hB.hwl
      have tl5:=h5 _ _ (aV (bB:=bU) (by omega)) (aV (bB:=bU) (by omega)) hB.htl
      refine ⟨h,dx,d,(B j).b,(B j).bx,(B j).wl,(B j).tl,_,cR j,(B j).ws,(B j).es.map (fun e=>e.r),f,w,rfl,k5 _ _ A3.hh (by omega),k5 _ _ A3.hd (by omega),hv,k5 _ _ hB.hb (by omega),wl5,by rw [List.map_map];exact tl5,aV (bB:=bU) (by omega),hf,top,by omega,by rw [List.length_map];omega,fun r H6 fr6 hr6 YD YF h6=>?_⟩
      rw [List.length_map,show (B j).es.length - 199=0 by omega,List.drop_zero,List.map_append,List.map_map] at YF
      have h56:∀ c o,H5 c=some o→bU c≠bU (B j).wl→bU c≠bU (B j).tl→H6 c=some o:=fun c o e n1 n2=>h6 _ _ (aV n1) (aV n2) e
      have fr3:H3 r=none:=by
       cases z:H3 r with
       | none=>rfl
       | some o =>
        by_cases z1:r=(B j).tr
        ·rw [z1,t5] at fr6;cases fr6
        ·by_cases z2:r=(B j).wr
         ·rw [z2,w5] at fr6;cases fr6
         ·rw [h5 _ _ z1 z2 z] at fr6;cases fr6
      have g:∀ c o,H3 c=some o→bU c / 10≠j+1→H6 c=some o:=fun c o e n=>h56 _ _ (k5 _ _ e n) (by omega) (by omega)
      have wr6:=h56 _ _ w5 (by omega) (by omega)
      have tr6:=h56 _ _ t5 (by omega) (by omega)
      exact fin bU _ ks rs H6 _ _ (A3.deed hk (hB.tell hf (by omega) (A3.Zj _ fr3) lu (fun c o e l=>g c o e (by omega)) YD YF wr6 tr6 hr6 (h56 _ _ u5 (by omega) (by omega))) rfl rfl rfl g (Alv.abV YD YF wr6 tr6 fun c o n1 n2 n3 n4 e=>h6 _ _ n1 n2 (h5 _ _ n4 n3 e))) fun c' o e l=>⟨l,g _ _ e (by omega)⟩
     ·rw [if_neg (by omega),if_neg (by omega),if_pos (by omega)]
      refine Bq (bA.of A3.hN) YC ?_
      walk_at "wp"
      refine ⟨_,gR _ _ _ A3.hT,by decide,fun q fq=>?_⟩
      have s4:=Same.new (o:=.lst []) fq
      walk_at "wp"
      refine ⟨_,SqL.of (s4 _ _ hB.htr),SqL.of upd_same,?_⟩
      rcases List.eq_nil_or_concat (B j).es with hes | ⟨es,e',hes⟩
      ·rw [hes]
       walk_at "wp"
       rw [if_neg (by omega)]
       exact fin bU B ks rs _ _ _ (A3.same s4 (Nat.le_succ _)) fun c' o e l=>⟨l,s4 _ _ e⟩
      rw [List.concat_eq_append] at hes
      rw [if_neg (by rw [hes,List.map_append];simp)]
      have A4:=A3.same s4 (Nat.le_refl _)
      generalize upd H3 q (.lst [])=H4 at s4 A4
      have SJ:=A4.bk j hk
      obtain ⟨er,el,eu,ev,ef,ey⟩:=SJ.he e' (by rw [hes];exact List.mem_append_right _ List.mem_cons_self)
      refine ⟨_,gR _ _ _ A4.hT,?_⟩
      walk_at "wp"
      refine ⟨⟨_,SqL.of SJ.htr⟩,_,SJ.htr,.ref e'.u,by rw [hes,List.map_append,List.length_append,List.length_map,List.map_singleton,List.length_singleton,Nat.add_sub_cancel,List.getElem?_append_right (by rw [List.length_map];exact Nat.le_refl _),List.length_map,Nat.sub_self];rfl,?_⟩
      rw [show ((B j).es.map fun e=>V.ref e.u).dropLast=es.map fun e=>V.ref e.u by rw [hes,List.map_append,List.map_singleton,List.dropLast_concat]]
      have h5:∀ c o,c≠(B j).tr→H4 c=some o→upd H4 (B j).tr (.lst (es.map fun e=>V.ref e.u)) c=some o:=fun c o n e=>by rw [upd_ne n];exact e
      have t5:upd H4 (B j).tr (.lst (es.map fun e=>V.ref e.u)) (B j).tr=_:=upd_same
      generalize upd H4 (B j).tr (.lst (es.map fun e=>V.ref e.u))=H5 at h5 t5
      have tw:(B j).wr≠(B j).tr:=aV (bB:=bU) (by omega)
      have u5:=h5 _ _ (aV (bB:=bU) (by omega)) eu
      walk_at "wp"
      refine ⟨_,bA.of u5,_,rfl,_,gR _ _ _ (h5 _ _ (aV (bB:=bU) (by omega)) A4.hR),_,bA.of u5,_,rfl,?_⟩
      walk_at "wp"
      refine ⟨_,h5 _ _ tw SJ.hwr,e'.f,jU (by rw [List.length_map];exact ef),?_⟩
      have h6:∀ c o,c≠(B j).tr→c≠(B j).wr→H4 c=some o→upd H5 (B j).wr (.lst (((B j).ws.map vI).set e'.f (vI e'.y))) c=some o:=fun c o n1 n2 e=>by rw [upd_ne n2];exact h5 _ _ n1 e
      have t6:upd H5 (B j).wr (.lst (((B j).ws.map vI).set e'.f (vI e'.y))) (B j).tr=_:=(upd_ne (Ne.symm tw)).trans t5
      have w6:upd H5 (B j).wr (.lst (((B j).ws.map vI).set e'.f (vI e'.y))) (B j).wr=some (.lst (((B j).ws.set e'.f e'.y).map vI)):=by rw [upd_same,←List.map_set]
      generalize upd H5 (B j).wr (.lst (((B j).ws.map vI).set e'.f (vI e'.y)))=H6 at h6 t6 w6
      have k6:∀ c o,H4 c=some o→bU c / 10≠j+1→H6 c=some o:=fun c o e n=>h6 _ _ (aV (bB:=bU) (by omega)) (aV (bB:=bU) (by omega)) e
      have wl6:=h6 _ _ (aV (bB:=bU) (by omega)) (aV (bB:=bU) (by omega)) SJ.hwl
      have tl6:=h6 _ _ (aV (bB:=bU) (by omega)) (aV (bB:=bU) (by omega)) SJ.htl
      refine ⟨_,_,k6 _ _ A4.hh (by omega),by rfl,h,dx,d,(B j).b,(B j).bx,(B j).wl,(B j).tl,_,cR j,(B j).ws,es.map (fun e=>e.r),e'.r,e'.f,e'.y,e'.w,rfl,k6 _ _ A4.hh (by omega),k6 _ _ A4.hd (by omega),hv,k6 _ _ SJ.hb (by omega),wl6,by rw [tl6,hes,List.map_append,List.map_append,List.map_map];rfl,aV (bB:=bU) (by omega),k6 _ _ er (by omega),ef,fun p7 H7 fp7 hp7 YG W4 h7=>?_⟩
      rw [List.map_map] at W4
      have h67:∀ c o,H6 c=some o→bU c≠bU (B j).wl→bU c≠bU (B j).tl→H7 c=some o:=fun c o e n1 n2=>h7 _ _ (aV n1) (aV n2) e
      have g:∀ c o,H4 c=some o→bU c / 10≠j+1→H7 c=some o:=fun c o e n=>h67 _ _ (k6 _ _ e n) (by omega) (by omega)
      have wr7:=h67 _ _ w6 (by omega) (by omega)
      have tr7:=h67 _ _ t6 (by omega) (by omega)
      exact fin bU _ ks rs H7 _ _ (A4.deed hk (SJ.back hes (fun c o e l=>g c o e (by omega)) YG W4 wr7 tr7) rfl rfl rfl g (Alv.abV YG W4 wr7 tr7 fun c o n1 n2 n3 n4 e=>h7 _ _ n1 n2 (h6 _ _ n4 n3 e))) fun c' o e l=>⟨l,g _ _ (s4 _ _ e) (by omega)⟩
     ·rw [if_neg (by omega),if_neg (by omega),if_neg (by omega),if_pos (by omega)]
      refine Bq (bA.of A3.hN) YC ?_
      walk_at "wp"
      obtain ⟨g0,hg0⟩:=List.mem_iff_getElem?.mp hk
      have dN:d≠Nn:=aV (bB:=bU) (by omega)
      have hN4:∀ c o,c≠Nn→H3 c=some o→upd H3 Nn (.lst (((ks.map cR).eraseIdx g0).map V.str)) c=some o:=fun c o n e=>by rw [upd_ne n];exact e
      have n4:upd H3 Nn (.lst (((ks.map cR).eraseIdx g0).map V.str)) Nn=some (.lst (((ks.filter fun k=>decide (k≠j)).map cR).map V.str)):=by rw [upd_same,←za,JZ A3.nk hg0]
      refine ⟨⟨_,SqL.of A3.hN⟩,ks.map cR,g0,A3.hN,by rw [List.getElem?_map,hg0];rfl,fun m' hm' z=>?_,?_⟩
      ·rw [List.getElem?_map,Option.map_eq_some_iff] at z
       obtain ⟨y,hy,z⟩:=z
       have:=wY (k4 y (List.mem_of_getElem? hy)) (by omega) z
       subst this
       have:=fB A3.nk hy hg0
       omega
      generalize upd H3 Nn (.lst (((ks.map cR).eraseIdx g0).map V.str))=H4 at hN4 n4
      have hh4:=hN4 _ _ (aV (bB:=bU) (by omega)) A3.hh
      refine ⟨_,_,hh4,by rfl,h,dx,d,(B j).b,_,cR j,rfl,hh4,hN4 _ _ dN A3.hd,hv,fun H5 Yz h5=>?_⟩
      rw [JX (by omega) k4] at Yz
      have g:∀ c o,H3 c=some o→c≠d→c≠Nn→H5 c=some o:=fun c o e n1 n2=>h5 _ _ n1 (hN4 _ _ n2 e)
      exact fin bU B _ rs H5 _ _ (A3.drop Yz (h5 _ _ (Ne.symm dN) n4) g) fun c' o e l=>⟨l,g _ _ e (aV (bB:=bU) (by omega)) (aV (bB:=bU) (by omega))⟩
    ·have YC:¬ cR j∈ks.map cR:=fun z=>hk ((QK (by omega) k4).mp z)
     have aa4:e<2∨2≤e∧e<6∨e=6∨e=7:=by omega
     rcases aa4 with he6 | he6 | he6 | he6
     ·rw [if_pos (by omega)]
      refine Hz (bA.of A3.hN) YC ?_
      walk_at "wp"
      obtain ⟨r0,hr0,hr⟩:=dH (x:=m) (m:=15) (by decide)
      rw [show ((15:Nat):Int)=15 from rfl] at hr0
      rw [hr0,show ((2:Int)+(r0:Int))=((2+r0:Nat):Int) by omega]
      refine ⟨by omega,by omega,?_⟩
      walk_at "wp"
      refine Sx.map (f:=fun n:Nat=>vI (mixed m (n:Int) % 51).toNat) (aD (by omega)) (fun n H4 R hn h4 hR=>?_) (fun wr H4 Nm hwr s4=>?_)
      ·walk_at "wp"
       refine ⟨_,_,rfl,?_⟩
       walk_at "wp"
       rw [show mixed m (n:Int) % 51=(((mixed m (n:Int) % 51).toNat:Nat):Int) from (Int.toNat_of_nonneg (Int.emod_nonneg _ (by decide))).symm]
       exact hR _ (Same.refl _)
      obtain ⟨ws,hws⟩:∃ ws:List Nat,ws=(List.range (2+r0)).map fun n:Nat=>(mixed m (n:Int) % 51).toNat:=⟨_,rfl⟩
      have hb:Bk ws:=by
       rw [hws]
       refine ⟨by rw [List.length_map,List.length_range];omega,by rw [List.length_map,List.length_range];omega,fun x hx=>?_⟩
       obtain ⟨n,_,rfl⟩:=List.mem_map.mp hx
       have:=Int.emod_lt_of_pos (mixed m (n:Int)) (show (0:Int)<51 by decide)
       omega
      have acC:H4 wr=some (.lst (ws.map vI)):=by rw [hwr,hws,List.map_map];rfl
      have A4:=A3.same s4 (Nat.le_refl _)
      have rl:=A4.rl;have kl:=A4.kl
      have kvl:∀ (l:List Nat) (F:Nat→V),l.length≤3→(qp l F).length<sizeLine:=fun l F z=>by unfold qp;rw [List.length_map];exact aD (by omega)
      have wR:wr≠Rd:=fun z=>by rw [z,A3.hR] at Nm;cases Nm
      have wT:wr≠Td:=fun z=>by rw [z,A3.hT] at Nm;cases Nm
      have wN:wr≠Nn:=fun z=>by rw [z,A3.hN] at Nm;cases Nm
      have wD:wr≠d:=fun z=>by rw [z,A3.hd] at Nm;cases Nm
      have RT:Rd≠Td:=aV (bB:=bU) (by omega)
      have RN:Rd≠Nn:=aV (bB:=bU) (by omega)
      have TN:Td≠Nn:=aV (bB:=bU) (by omega)
      have RD:Rd≠d:=aV (bB:=bU) (by omega)
      have TD:Td≠d:=aV (bB:=bU) (by omega)
      have ND:Nn≠d:=aV (bB:=bU) (by omega)
      refine ⟨_,DPut.k (k:=Sum.inr (cR j)) A4.hR (kvl _ _ rl),?_⟩
      rw [QJ (by omega) r4]
      refine ⟨by decide,fun tr Ei=>?_⟩
      have tR:tr≠Rd:=fun z=>by rw [z,upd_same] at Ei;cases Ei
      rw [upd_ne tR] at Ei
      have Np:H3 tr=none:=s4.free Ei
      have tT:tr≠Td:=fun z=>by rw [z,A3.hT] at Np;cases Np
      have tN:tr≠Nn:=fun z=>by rw [z,A3.hN] at Np;cases Np
      have wt':wr≠tr:=fun z=>by rw [←z,acC] at Ei;cases Ei
      refine ⟨_,DPut.k (k:=Sum.inr (cR j)) (kvs:=qp rs fun i=>V.ref (B i).tr) (by rw [upd_ne (Ne.symm tT),upd_ne (Ne.symm RT)];exact A4.hT) (kvl _ _ rl),?_⟩
      rw [QJ (by omega) r4]
      have h7:∀ c o,H4 c=some o→c≠Rd→c≠Td→upd (upd (upd H4 Rd (.dK (qp (jV rs j) fun i=>if i=j then V.ref wr else V.ref (B i).wr))) tr (.lst [])) Td (.dK (qp (jV rs j) fun i=>if i=j then V.ref tr else V.ref (B i).tr)) c=some o:=fun c o e n1 n2=>by rw [upd_ne n2,upd_ne (ne_of_none e Ei),upd_ne n1];exact e
      have R7:upd (upd (upd H4 Rd (.dK (qp (jV rs j) fun i=>if i=j then V.ref wr else V.ref (B i).wr))) tr (.lst [])) Td (.dK (qp (jV rs j) fun i=>if i=j then V.ref tr else V.ref (B i).tr)) Rd=some (.dK (qp (jV rs j) fun i=>if i=j then V.ref wr else V.ref (B i).wr)):=by rw [upd_ne RT,upd_ne (Ne.symm tR),upd_same]
      have T7:upd (upd (upd H4 Rd (.dK (qp (jV rs j) fun i=>if i=j then V.ref wr else V.ref (B i).wr))) tr (.lst [])) Td (.dK (qp (jV rs j) fun i=>if i=j then V.ref tr else V.ref (B i).tr)) Td=some (.dK (qp (jV rs j) fun i=>if i=j then V.ref tr else V.ref (B i).tr)):=upd_same
      have t7:upd (upd (upd H4 Rd (.dK (qp (jV rs j) fun i=>if i=j then V.ref wr else V.ref (B i).wr))) tr (.lst [])) Td (.dK (qp (jV rs j) fun i=>if i=j then V.ref tr else V.ref (B i).tr)) tr=some (.lst []):=by rw [upd_ne tT,upd_same]
      generalize upd (upd (upd H4 Rd (.dK (qp (jV rs j) fun i=>if i=j then V.ref wr else V.ref (B i).wr))) tr (.lst [])) Td (.dK (qp (jV rs j) fun i=>if i=j then V.ref tr else V.ref (B i).tr))=H7 at h7 R7 T7 t7
      have N7:=h7 _ _ A4.hN (Ne.symm RN) (Ne.symm TN)
      refine ⟨⟨_,SqL.of N7⟩,_,N7,by rw [List.length_map,List.length_map];exact aD (by omega),?_⟩
      have h8:∀ c o,H7 c=some o→c≠Nn→upd H7 Nn (.lst ((ks.map cR).map V.str++[.str (cR j)])) c=some o:=fun c o e n=>by rw [upd_ne n];exact e
      have N8:upd H7 Nn (.lst ((ks.map cR).map V.str++[.str (cR j)])) Nn=_:=upd_same
      generalize upd H7 Nn (.lst ((ks.map cR).map V.str++[.str (cR j)]))=H8 at h8 N8
      have hh8:=h8 _ _ (h7 _ _ A4.hh (aV (bB:=bU) (by omega)) (aV (bB:=bU) (by omega))) (aV (bB:=bU) (by omega))
      have hd8:=h8 _ _ (h7 _ _ A4.hd (Ne.symm RD) (Ne.symm TD)) (Ne.symm ND)
      have R8:=h8 _ _ R7 RN
      have T8:=h8 _ _ T7 TN
      have t8:=h8 _ _ t7 tN
      have w8:=h8 _ _ (h7 _ _ acC wR wT) wN
      have jA:j∈jV rs j:=by unfold jV;by_cases y:j∈rs <;> simp [y]
      have A4':∀ k∈jV rs j,k<4:=fun k hk'=>by
       unfold jV at hk'
       by_cases y:j∈rs
       ·rw [if_pos y] at hk';exact r4 k hk'
       ·rw [if_neg y] at hk'
        rcases List.mem_append.mp hk' with z | z
        ·exact r4 k z
        ·rw [List.mem_singleton.mp z];omega
      have g8:DGet H8 Rd (.str (cR j)) (some (.ref wr)):=by
       have:=DGet.k (k:=Sum.inr (cR j)) R8
       rw [gW (by omega) A4',if_pos jA,if_pos rfl] at this
       exact this
      refine ⟨_,_,hh8,by rfl,_,g8,?_⟩
      walk_at "wp"
      refine ⟨_,bA.of w8,fun q fq=>?_⟩
      have s9:=Same.new (o:=.lst (ws.map vI)) fq
      have q9:=upd_same (H:=H8) (a:=q) (o:=.lst (ws.map vI))
      generalize upd H8 q (.lst (ws.map vI))=H9 at s9 q9
      refine ⟨h,dx,d,q,_,cR j,ws,rfl,s9 _ _ hh8,s9 _ _ hd8,by rw [gW (by omega) k4,if_neg hk],by unfold qp;rw [List.length_map];omega,bA.of q9,hb,fun b bx wl tl H10 fb W5 W6 n1 ad0 ad1 acD acE h10=>?_⟩
      have f83:∀ c,H8 c=none→H3 c=none:=fun c e=>by
       cases z:H3 c with
       | none=>rfl
       | some o =>
        by_cases y1:c=Rd
        ·rw [y1,R8] at e;cases e
        ·by_cases y2:c=Td
         ·rw [y2,T8] at e;cases e
         ·by_cases y3:c=Nn
          ·rw [y3,N8] at e;cases e
          ·rw [h8 _ _ (h7 _ _ (s4 _ _ z) y1 y2) y3] at e;cases e
      have w9:=s9 _ _ w8
      have t9:=s9 _ _ t8
      have g:∀ c o,H3 c=some o→c≠d→c≠Nn→c≠Rd→c≠Td→H10 c=some o:=fun c o e x1 x2 x3 x4=>h10 _ _ x1 (s9 _ _ (h8 _ _ (h7 _ _ (s4 _ _ e) x3 x4) x2))
      have tD:tr≠d:=fun z=>by rw [z,A3.hd] at Np;cases Np
      obtain ⟨Sv,A10,l10⟩:=A3.keep (i:=j) hj hk hb (f83 _ (uL s9 fb)) (f83 _ (uL s9 W5)) (f83 _ (uL s9 W6)) Nm Np (fun z=>by rw [z,w9] at W5;cases W5) (fun z=>by rw [z,t9] at W5;cases W5) (fun z=>by rw [z,w9] at W6;cases W6) (fun z=>by rw [z,t9] at W6;cases W6) n1 wt' ad1 acD acE (h10 _ _ wD w9) (h10 _ _ tD t9) ad0 (h10 _ _ ND (s9 _ _ N8)) (h10 _ _ RD (s9 _ _ R8)) (h10 _ _ TD (s9 _ _ T8)) g
      exact fin Sv _ _ _ H10 _ _ A10 fun c' o e l=>⟨(l10 c' o e).trans l,g _ _ e (aV (bB:=bU) (by omega)) (aV (bB:=bU) (by omega)) (aV (bB:=bU) (by omega)) (aV (bB:=bU) (by omega))⟩
     ·rw [if_neg (by omega),if_pos (by omega)]
      refine Hz (bA.of A3.hN) YC ?_
      walk_at "wp"
      rw [if_neg (by omega),if_neg (by omega)]
      exact stay _ _
     ·rw [if_neg (by omega),if_neg (by omega),if_pos (by omega)]
      refine Hz (bA.of A3.hN) YC ?_
      walk_at "wp"
      rw [if_neg (by omega)]
      exact stay _ _
     ·rw [if_neg (by omega),if_neg (by omega),if_neg (by omega),if_pos (by omega)]
      refine Hz (bA.of A3.hN) YC ?_
      walk_at "wp"
      exact stay _ _
   ·rintro σ H1 ⟨rZ,B',ks',rs',_,_,_,_,_,_,_,rfl,A',z⟩
    exact hN _ _ ⟨rZ,_,B',ks',rs',rfl,A',fun c o l e=>(z c o l e).2⟩
  rintro σ H1 ⟨rZ,t,B',ks',rs',_,A',z⟩
  walk_at "wp"
  exact k rZ t B' ks' rs' _ A' z
theorem IK (T:Txt mg) (F:aM K mg "_law_book" nu ["_law_script","_law_k"]) (cj:jt P w K mg base) (fG:vX P w K mg base):yu P w K mg base:=by
 refine F.aZ vm.2 Fj.2 cJ (fun vs H Q E h=>?_) (fun f cdv A outer s H vs Q E hr h=>?_) <;> obtain ⟨a,ns,j,rfl,hS,k⟩:=h
 ·rfl
 ·have hu:=hu_of hr
  refine ⟨_,(ao (aB (i:=2) cJ.nd rfl (Or.inl rfl) (aO op_add au (aO op_mod (aA fG (hr.mono (by decide)) pass0 (aj (qv 0) (aj (qv 1) ak))) au)))
   (ao (aB (i:=3) cJ.nd rfl (Or.inl rfl) (aA fG (hr.mono (by decide)) pass0 (aj (qv 0) (aj (aO op_add (qv 1) au) ak))))
   (ao (aB (i:=4) cJ.nd rfl (Or.inl rfl) (aA fG (hr.mono (by decide)) pass0 (aj (qv 0) (aj (aO op_add (qv 1) au) ak))))
   (ao (aB (i:=5) cJ.nd rfl (Or.inl rfl) (aY bh (cu (Xx rfl)) (aO op_mod (qv 3) au) (fun _ _=>rfl)))
   (ao (aB (i:=6) cJ.nd rfl (Or.inl rfl) (cu ak))
   (ao (cB PassesOwn.never rfl (bZ rfl T.cO (aj (qv 2) ak)) (aR (i:=7) cJ.nd rfl (Or.inl rfl)) (aq (bM (aN mH (aO op_mod (qv 3) au) au (nomark _)) (ao (aP (fU (K:=K) rfl PySem.F.plainAttrs_list PySem.F.slot_list_append PySem.F.type_list_append bY (qv 6) (aj (aO op_mod (aO op_add (qv 4) (aA cj (hr.mono (by decide)) pass0 (aj (qv 3) (aj (qv 7) ak)))) (aO op_add (qv 5) au)) ak)))
   (aq (aB (i:=4) cJ.nd rfl (Or.inl rfl) (aO eG (qv 4) (aO op_add (qv 5) au))))) (aq (bM (aN op_eq (aO op_mod (qv 3) au) au (nomark _)) (aq (aP (fU (K:=K) rfl PySem.F.plainAttrs_list PySem.F.slot_list_append PySem.F.type_list_append bY (qv 6) (aj (aL (Lk rfl) (by rfl) T.WW Lj (aj (aY bh (cu (aj (qv 7) (aj (aO sO (qv 7) (qv 7)) ak))) (aO op_mod (aO eG (qv 3) au) au) (fun _ _=>rfl)) (aj au ak))) ak)))) (aq (bM (aN op_eq (aO op_mod (qv 3) au) au (nomark _)) (aq (aP (fU (K:=K) rfl PySem.F.plainAttrs_list PySem.F.slot_list_append PySem.F.type_list_append bY (qv 6) (aj (aO sO (gH Rt (by rfl) T.Zr T3 (aj (Pq op_eq (qv 7) (aO op_mod (qv 4) (qv 2)) (nomark _)) ak)) (aO op_add au (aO op_mod (aO eG (qv 4) (qv 2)) au))) ak)))) (aq (aP (fU (K:=K) rfl PySem.F.plainAttrs_list PySem.F.slot_list_append PySem.F.type_list_append bY (qv 6) (aj (aO op_mod (qv 4) au) ak)))))))))))
   (aq (aU (qv 6))))))))),?_⟩
  walk_at "wp"
  refine ⟨a,ns,j,rfl,hS,?_⟩
  walk_at "wp"
  refine ⟨a,ns,j+1,rfl,hS,?_⟩
  walk_at "wp"
  refine ⟨a,ns,j+2,rfl,hS,?_⟩
  walk_at "wp"
  obtain ⟨b0,hb0,hb1⟩:=dH (x:=cell ns j) (m:=15) (by decide)
  generalize afw:cell ns (j+1)=way
  generalize hc:cell ns (j+2)=c
  obtain ⟨b,hb⟩:∃ b:Nat,2+cell ns j % 15=(b:Int):=⟨2+b0,by omega⟩
  rw [hb]
  have hb2:2≤b:=by omega
  have ab8:b≤16:=by omega
  refine ⟨by decide,fun p0 hp0=>?_⟩
  obtain ⟨r,hr0,hr1⟩:=dH (x:=way) (m:=8) (by decide)
  rw [show ((8:Nat):Int)=8 from rfl] at hr0
  rw [hr0]
  obtain ⟨mo,hmo,hm1,hm2⟩:∃ mo:Nat,atI [V.int 50,V.int 50,V.int 50,V.int 9,V.int 2,V.int 50,V.int 50,V.int 50] (r:Int)=some (vI mo)∧0<mo∧mo≤50:=by
   have:r=0∨r=1∨r=2∨r=3∨r=4∨r=5∨r=6∨r=7:=by omega
   rcases this with rfl | rfl | rfl | rfl | rfl | rfl | rfl | rfl
   ·exact ⟨50,rfl,by decide,by decide⟩
   ·exact ⟨50,rfl,by decide,by decide⟩
   ·exact ⟨50,rfl,by decide,by decide⟩
   ·exact ⟨9,rfl,by decide,by decide⟩
   ·exact ⟨2,rfl,by decide,by decide⟩
   ·exact ⟨50,rfl,by decide,by decide⟩
   ·exact ⟨50,rfl,by decide,by decide⟩
   ·exact ⟨50,rfl,by decide,by decide⟩
  refine ⟨_,bA.of upd_same,_,hmo,by decide,fun p hp=>?_⟩
  have hp':H p=none:=(Same.new hp0).free hp
  refine ⟨by omega,by omega,nH.go (fun i σ H2=>∃ (c:Int) (ws:List Nat) (v:Option V),σ=[some (.ref a),some (vI j),some (vI b),some (.int way),some (.int c),some (vI mo),some (.ref p),v]∧H2 p=some (.lst (ws.map vI))∧ws.length=i∧(∀ x∈ws,x≤50)∧Same H H2) ⟨c,[],none,rfl,upd_same,rfl,by simp,(Same.new hp0).trans (Same.new hp)⟩ ?_ ?_⟩
  ·rintro i σ H2 N hi ⟨c,ws,v,rfl,hp2,hl,hw,hs⟩ hN
   have fin:∀ (x:Nat) (c':Int) (H3:Hp),x≤50→H3 p=some (.lst (ws.map vI))→Same H H3→N [some (.ref a),some (vI j),some (vI b),some (.int way),some (.int c'),some (vI mo),some (.ref p),some (.int i)] (upd H3 p (.lst (ws.map vI++[vI x]))):=fun x c' H3 hx h3 hs3=>by
    refine hN _ _ ⟨c',ws++[x],_,rfl,by rw [upd_same,List.map_append];rfl,by simp [hl],fun y hy=>?_,fun q o e=>?_⟩
    ·rcases List.mem_append.mp hy with z | z
     ·exact hw y z
     ·rw [List.mem_singleton.mp z];exact hx
    ·rw [upd_ne (ne_of_none e hp')];exact hs3 _ _ e
   have hlen:(ws.map vI).length<sizeLine:=by rw [List.length_map];exact aD (by omega)
   walk_at "wp"
   rw [hr0]
   refine ite2 (fun e=>?_) (fun e=>ite2 (fun e=>?_) (fun e=>ite2 (fun e=>?_) (fun e=>?_)))
   ·refine ⟨⟨_,SqL.of hp2⟩,way,i,rfl,?_⟩
    walk_at "wp"
    obtain ⟨x,hx,hx1⟩:=dH (x:=c+mixed way (i:Int)) (m:=mo+1) (by omega)
    rw [show ((mo:Int)+1)=((mo+1:Nat):Int) from rfl,hx]
    refine ⟨by omega,_,hp2,hlen,gQ (by omega) (by omega),fin x _ H2 (by omega) hp2 hs⟩
   ·refine ⟨⟨_,SqL.of hp2⟩,.inl ⟨by omega,by omega⟩,by decide,fun q hq=>⟨gQ (by decide) (by decide),?_⟩⟩
    obtain ⟨x,hx,hx1⟩:=dH (x:=way / 8) (m:=2) (by decide)
    rw [show ((2:Nat):Int)=2 from rfl] at hx
    rw [hx]
    have h3:upd H2 q (.lst [.int i,.int ((i:Int)*i)]) p=some (.lst (ws.map vI)):=by rw [upd_ne (ne_of_none hp2 hq)];exact hp2
    have hs3:Same H (upd H2 q (.lst [.int i,.int ((i:Int)*i)])):=hs.trans (Same.new hq)
    obtain ⟨y,hy⟩:∃ y:Nat,atI [V.int (i:Int),V.int ((i:Int)*i)] (x:Int)=some (vI y):=by
     have:x=0∨x=1:=by omega
     rcases this with rfl | rfl
     ·exact ⟨i,rfl⟩
     ·exact ⟨i*i,rfl⟩
    refine ⟨_,bA.of upd_same,_,hy,?_⟩
    walk_at "wp"
    refine ⟨_,h3,hlen,?_⟩
    have e2:(V.int (if 50<(y:Int) then 50 else (y:Int)))=vI (if 50<y then 50 else y):=by
     rw [vI];congr 1;split <;> split <;> omega
    rw [e2]
    exact fin _ _ _ (by split <;> omega) h3 hs3
   ·refine ⟨⟨_,SqL.of hp2⟩,by omega,gQ (by omega) (by omega),?_⟩
    obtain ⟨x,hx,hx1⟩:=dH (x:=c / (b:Int)) (m:=50) (by decide)
    rw [show ((50:Nat):Int)=50 from rfl] at hx
    rw [hx]
    by_cases hz:(i:Int)=c % (b:Int)
    ·rw [decide_eq_true hz]
     walk_at "wp"
     refine ⟨.inl ⟨by decide,by decide⟩,_,hp2,hlen,?_⟩
     rw [show (V.int (1*(1+(x:Int))))=vI (1+x) by rw [vI];congr 1;omega]
     exact fin _ _ _ (by omega) hp2 hs
    ·rw [decide_eq_false hz]
     walk_at "wp"
     refine ⟨.inl ⟨by decide,by decide⟩,_,hp2,hlen,?_⟩
     rw [show (V.int ((if false=true then (1:Int) else 0)*(1+(x:Int))))=vI 0 by rw [if_neg Bool.false_ne_true,Int.zero_mul];rfl]
     exact fin _ _ _ (by omega) hp2 hs
   ·refine ⟨⟨_,SqL.of hp2⟩,_,hp2,hlen,?_⟩
    obtain ⟨x,hx,hx1⟩:=dH (x:=c) (m:=51) (by decide)
    rw [show ((51:Nat):Int)=51 from rfl] at hx
    rw [hx]
    exact fin x _ _ (by omega) hp2 hs
  ·rintro σ H2 ⟨c,ws,v,rfl,hp2,hl,hw,hs⟩
   walk_at "wp"
   exact k ws p H2 (by omega) (by omega) hw hp' hp2 hs
theorem yx (T:Txt mg) (F:vJ K "House" "House.__init__" fD ["self"]) (aG:ClsAt K mg "House") (aQ:pB K "House" "books") :nD P w K mg base:=by
 refine F.aZ lF.2 vV.2 vW (fun vs H Q E h=>?_) (fun f cdv A outer s H vs Q E hr h=>?_) <;> obtain ⟨x,dx,rfl,hx,k⟩:=h
 ·rfl
 ·have hu:=hu_of hr
  refine ⟨_,(aq (Lx (K:=K) rfl (qv 0) kY)),?_⟩
  walk_at "wp"
  intro d hd
  have hxd:x≠d:=ne_of_none hx hd
  refine ⟨_,_,_,Same.new hd _ _ hx,aG.cl,aQ,by decide,k d _ hd ?_ ?_ ?_⟩
  ·rw [upd_same];rfl
  ·rw [upd_ne (Ne.symm hxd),upd_same]
  ·intro b o hb e
   rw [upd_ne hb,upd_ne (ne_of_none e hd)]
   exact e
theorem aa5 {f:Addr} {fd:FuncData} (T:Txt mg) (F:Fun K "law" "law" Dw f fd) (aG:ClsAt K mg "House") (iD:rY P w K mg base) (dD:nO P w K mg base) (fG:vX P w K mg base) (cj:jt P w K mg base) (nT:um P w K mg base) (nU:uo P w K mg base) (uz:yu P w K mg base) (iY:nD P w K mg base):FnOk P w K mg base CX0 11 f fd ["_law_script"] (M9 K):=by
 refine F.okQ Rc.2 Yt.2 jr (fun vs H Q E h=>?_) (fun cdv A outer s H vs Q E hr h=>?_) <;> obtain ⟨a,ns,rfl,hS0,hlen,k⟩:=h
 ·rfl
 ·have hu:=hu_of hr
  refine ⟨_,(ao (aB (i:=1) jr.nd rfl (Or.inl rfl) (Vv (K:=K) rfl aG iY (hr.mono (by decide)) pass0))
   (ao (aB (i:=2) jr.nd rfl (Or.inl rfl) (cu (aj nJ ak)))
   (ao (aB (i:=3) jr.nd rfl (Or.inl rfl) (JK nJ (aA uz (hr.mono (by decide)) pass0 (aj (qv 0) (aj au ak)))))
   (ao (aB (i:=4) jr.nd rfl (Or.inl rfl) (JK nJ (cu ak)))
   (ao (aP (cX (K:=K) (pl:=_) rfl aG dD (hr.mono (by decide)) pass0 (qv 1) (aj nJ (aj (gH pU (by rfl) T.vM pR (aj (bD hu (qv 3) nJ (fun _ _=>rfl)) ak)) ak))))
   (ao (aP (aA nU (hr.mono (by decide)) pass0 (aj (qv 1) (aj (gP FW (qv 0) (gO au) (gO au)) (aj (qv 2) (aj (qv 3) (aj (qv 4) ak)))))))
   (ao (aB (i:=5) jr.nd rfl (Or.inl rfl) (Vu (K:=K) (pl:=_) rfl aG nT (hr.mono (by decide)) pass0 (qv 1)))
   (ao (bM (wJ (p8 (qb (aL oY (by rfl) T.gY fQ (aj (qv 5) (aj (Jx T.vM pR) ak))))) (qd (aN op_ne (aL aH (by rfl) T.cQ PySem.boot_len (aj (qv 5) ak)) (aL aH (by rfl) T.cQ PySem.boot_len (aj (qv 2) ak)) (nomark _)))).qt (aq (aU mK)) bF)
   (ao (cB PassesOwn.never rfl (bZ rfl T.cO (aj (aL aH (by rfl) T.cQ PySem.boot_len (aj (qv 2) ak)) ak)) (aR (i:=6) jr.nd rfl (Or.inl rfl)) (ao (aB (i:=7) jr.nd rfl (Or.inl rfl) (aY bh (qv 2) (qv 6) (fun _ _=>rfl)))
   (ao (bM (wJ (p8 (qb (aL oY (by rfl) T.gY fQ (aj (aY bh (qv 5) (qv 6) (fun _ _=>rfl)) (aj (Jx T.ab7 aaf) ak))))) (qd (aN op_ne (aY bh (qv 5) (qv 6) (fun _ _=>rfl)) (qv 7) (nomark _)))).qt (aq (aU mK)) bF)
   (ao (aB (i:=8) jr.nd rfl (Or.inr rfl) (aO op_mod (aA fG (hr.mono (by decide)) pass0 (aj (qv 0) (aj au ak))) au))
   (ao (Cj (i:=9) jr.nd rfl rfl ⟨rfl,rfl,rfl,rfl,rfl,rfl,rfl,rfl⟩ rfl (bZ rfl T.cO (aj au ak)) (fun _ _ _ _=>(aO op_mod (aO op_add (aO eG (aA fG (hr.mono (by decide)) pass0 (aj (qv 1) (aj au ak))) au) (aA cj (hr.mono (by decide)) pass0 (aj (qv 9) (aj (qv 0) ak)))) au)) (fun _ _ _ _=>aR (i:=0) (show (["_law_j","_law_script","_law_house","_law_kept","_law_rows","_law_told","_law_names","_law_k","_law_name","_law_limit","_law_numbers"]:List Str).Nodup by decide +kernel) rfl (Or.inl rfl) (.inr rfl)))
   (aq (bM (p8 (qb (aA iD (hr.mono (by decide)) pass0 (aj (qv 1) (aj (qv 7) (aj (bD hu (qv 3) (qv 7) (fun _ _=>rfl)) (aj (qv 8) (aj (qv 9) ak)))))))) (aq (aU mK)) bF)))))))
   (aq (aU (U9 (Pq XF (cX (K:=K) (pl:=_) rfl aG dD (hr.mono (by decide)) pass0 (qv 1) (aj nJ (aj (cu (aj au (aj au ak))) ak))) aar (nomark _)) (U8 (aA iD (hr.mono (by decide)) pass0 (aj (qv 1) (aj nJ (aj (cu (aj au (aj au ak))) (aj au (aj (cu (aj au (aj au ak))) ak))))))))))))))))))),?_⟩
  have hS:bA K H a (ns.map V.int):=.inl hS0
  refine aau (fun σ H1=>∃ (h dx d Nn Rd Td:Addr) (bB:Addr→Nat) (B:Nat→BX),σ=[some (.ref a),some (.ref h),some (.ref Nn),some (.ref Rd),some (.ref Td),none,none,none,none,none]∧HP K bB H1 0 h dx d Nn Rd Td B [1] [1]∧Old H bB H1) (fun N hN=>?_) ?_
  ·walk_at "wp"
   intro h dx fh fdx ndx
   refine ⟨h,dx,rfl,upd_same,fun d H1 fd hh1 hd1 fr1=>⟨rfl,?_⟩⟩
   have s1:=RK fh fdx fr1
   have dfr:H d=none:=by
    cases y:H d with
    | none=>rfl
    | some o=>rw [upd_ne (ne_of_none y fh),upd_ne (ne_of_none y fdx),y] at fd;cases fd
   walk_at "wp"
   rw [show Str.ofString "q" = cR 1 from rfl]
   refine ⟨by decide,fun Nn fN Rd fR=>?_⟩
   have t1:=Same.new (o:=.lst [.str (cR 1)]) fN
   have t2:=Same.new (o:=.dK []) fR
   have fN0:=s1.free fN
   have fR0:=s1.free (t1.free fR)
   have N2:=t2 _ _ (upd_same (H:=H1) (a:=Nn) (o:=.lst [.str (cR 1)]))
   have R2:=upd_same (H:=upd H1 Nn (.lst [.str (cR 1)])) (a:=Rd) (o:=.dK [])
   have s2:=t1.trans t2
   have dR:d≠Rd:=ne_of_none (t1 _ _ hd1) fR
   generalize upd (upd H1 Nn (.lst [.str (cR 1)])) Rd (.dK [])=H2 at N2 R2 s2
   refine ⟨a,ns,0,rfl,(s1.trans s2).sq hS,fun ws wr H3 w2 w16 wle Nm hwr s3=>?_⟩
   have hb:Bk ws:=⟨w2,w16,wle⟩
   have ad3:=s1.free (s2.free Nm)
   refine ⟨s3 _ _ R2,[(.inr (cR 1),.ref wr)],rfl,(show 1≤15 by decide),fun Td Zw=>⟨by decide,fun tr Ei=>⟨?_,[(.inr (cR 1),.ref tr)],rfl,(show 1≤15 by decide),?_⟩⟩⟩
   ·exact Same.new Ei _ _ upd_same
   rw [show sS [] [((.inr (cR 1):Key),V.ref wr)]=[((.inr (cR 1):Key),V.ref wr)] from rfl] at Zw Ei ⊢
   rw [show sS [] [((.inr (cR 1):Key),V.ref tr)]=[((.inr (cR 1):Key),V.ref tr)] from rfl]
   have TR:Td≠Rd:=fun z=>by rw [z,upd_same] at Zw;cases Zw
   rw [upd_ne TR] at Zw
   have trT:tr≠Td:=fun z=>by rw [z,upd_same] at Ei;cases Ei
   rw [upd_ne trT] at Ei
   have trR:tr≠Rd:=fun z=>by rw [z,upd_same] at Ei;cases Ei
   rw [upd_ne trR] at Ei
   have h5:∀ c o,c≠Rd→H3 c=some o→upd (upd (upd (upd H3 Rd (.dK [(.inr (cR 1),.ref wr)])) Td (.dK [])) tr (.lst [])) Td (.dK [(.inr (cR 1),.ref tr)]) c=some o:=fun c o n e=>by rw [upd_ne (ne_of_none e Zw),upd_ne (ne_of_none e Ei),upd_ne (ne_of_none e Zw),upd_ne n];exact e
   have R5:upd (upd (upd (upd H3 Rd (.dK [(.inr (cR 1),.ref wr)])) Td (.dK [])) tr (.lst [])) Td (.dK [(.inr (cR 1),.ref tr)]) Rd=some (.dK [(.inr (cR 1),.ref wr)]):=by rw [upd_ne (Ne.symm TR),upd_ne (Ne.symm trR),upd_ne (Ne.symm TR),upd_same]
   have T5:upd (upd (upd (upd H3 Rd (.dK [(.inr (cR 1),.ref wr)])) Td (.dK [])) tr (.lst [])) Td (.dK [(.inr (cR 1),.ref tr)]) Td=some (.dK [(.inr (cR 1),.ref tr)]):=upd_same
   have r5:upd (upd (upd (upd H3 Rd (.dK [(.inr (cR 1),.ref wr)])) Td (.dK [])) tr (.lst [])) Td (.dK [(.inr (cR 1),.ref tr)]) tr=some (.lst []):=by rw [upd_ne trT,upd_same]
   generalize upd (upd (upd (upd H3 Rd (.dK [(.inr (cR 1),.ref wr)])) Td (.dK [])) tr (.lst [])) Td (.dK [(.inr (cR 1),.ref tr)])=H5 at h5 R5 T5 r5
   have wR:wr≠Rd:=fun z=>by rw [z,R2] at Nm;cases Nm
   have hR:h≠Rd:=ne_of_none (t1 _ _ hh1) fR
   have NR:Nn≠Rd:=ne_of_none upd_same fR
   have hh5:=h5 _ _ hR (s3 _ _ (s2 _ _ hh1))
   have Yz:=h5 _ _ dR (s3 _ _ (s2 _ _ hd1))
   have N5:=h5 _ _ NR (s3 _ _ N2)
   have w5:=h5 _ _ wR hwr
   have s13:=s1.trans (s2.trans s3)
   have s5:Same H H5:=fun c o e=>h5 _ _ (ne_of_none e fR0) (s13 _ _ e)
   refine ⟨_,_,hh5,by rfl,.ref wr,DGet.k (k:=Sum.inr (cR 1)) R5,?_⟩
   walk_at "wp"
   refine ⟨_,bA.of w5,fun q fq=>?_⟩
   have s6:=Same.new (o:=.lst (ws.map vI)) fq
   have q6:=upd_same (H:=H5) (a:=q) (o:=.lst (ws.map vI))
   generalize upd H5 q (.lst (ws.map vI))=H6 at s6 q6
   refine ⟨h,dx,d,q,[],cR 1,ws,rfl,s6 _ _ hh5,s6 _ _ Yz,rfl,by decide,bA.of q6,hb,fun b bx wl tl H7 fb W5 W6 n1 hd7 hb7 YG W4 h7=>?_⟩
   have no:∀ {x y:Addr} {o:HO},H6 y=none→H5 x=some o→x≠y:=fun e1 e2=>ne_of_none (s6 _ _ e2) e1
   have ld:∀ {x:Addr} {l:List V},H5 x=some (.lst l)→x≠d:=fun e1 z=>by rw [z,Yz] at e1;cases e1
   have dT:Td≠d:=Ne.symm (ne_of_none (s3 _ _ (s2 _ _ hd1)) Zw)
   have m7:∀ {x:Addr} {l:List V},H5 x=some (.lst l)→H7 x=some (.lst l):=fun e=>h7 _ _ (ld e) (s6 _ _ e)
   obtain ⟨bB,A,ho⟩:=HP.first (H0:=H) (K:=K) hb (h7 _ _ (fun z=>by rw [z,Yz] at hh5;cases hh5) (s6 _ _ hh5)) hd7 (m7 N5) (h7 _ _ (Ne.symm dR) (s6 _ _ R5)) (h7 _ _ dT (s6 _ _ T5)) hb7 YG W4 (m7 w5) (m7 r5) (Ne.symm dR) dT TR (Ne.symm (no W5 N5)) (Ne.symm (no W6 N5)) (fun z=>by rw [z,N2] at Nm;cases Nm) (fun z=>by rw [z,s3 _ _ N2] at Ei;cases Ei) (Ne.symm n1) (no W5 w5) (no W5 r5) (no W6 w5) (no W6 r5) (fun z=>by rw [z,hwr] at Ei;cases Ei) dfr fN0 fR0 (s13.free Zw) (s5.free (s6.free W5)) (s5.free (s6.free W6)) ad3 (s13.free Ei) fun c o e=>h7 _ _ (fun z=>by rw [z,dfr] at e;cases e) (s6 _ _ (s5 _ _ e))
   exact hN _ _ ⟨h,dx,d,Nn,Rd,Td,bB,_,rfl,A,ho⟩
  rintro σ H1 ⟨h,dx,d,Nn,Rd,Td,bB,B,rfl,A,ho⟩
  refine Y8 (fun σ H2=>∃ (bB:Addr→Nat) (t:Nat) (B:Nat→BX) (ks rs:List Nat),σ=[some (.ref a),some (.ref h),some (.ref Nn),some (.ref Rd),some (.ref Td),none,none,none,none,none]∧HP K bB H2 t h dx d Nn Rd Td B ks rs∧Same H H2) (fun N hN=>?_) ?_
  ·walk_at "wp"
   obtain ⟨cs,hcs,ad4⟩:=Wa ns
   refine ⟨_,ho.same.seq hS0,fun cl fcl=>?_⟩
   rw [hcs]
   refine ⟨bB,h,dx,d,Nn,Rd,Td,cl,B,[1],[1],cs,rfl,A.same (Same.new fcl) (Nat.le_refl _),upd_same,A.Zj _ fcl,ad4,fun rZ t B' ks' rs' H' A' z=>hN _ _ ⟨rZ,t,B',ks',rs',rfl,A',fun c o e=>z c o (ho c o e).1 (Same.new fcl _ _ (ho c o e).2)⟩⟩
  rintro σ H2 ⟨bB,t,B,ks,rs,rfl,A,s2⟩
  have k4:∀ i∈ks,i<4:=fun i hi=>by have:=A.k3 i hi;omega
  have r4:∀ i∈rs,i<4:=fun i hi=>by have:=A.r3 i hi;omega
  have kl:=A.kl
  have kk:(qp ks fun i=>V.ref (B i).b).map (fun kv=>kV kv.1)=(ks.map cR).map V.str:=by
   unfold qp;rw [List.map_map,List.map_map];rfl
  walk_at "wp"
  refine ⟨_,_,A.hh,by rfl,h,dx,d,_,rfl,A.hh,A.hd,by unfold qp;rw [List.length_map];omega,fun q H3 fq hq s3=>?_⟩
  rw [kk] at hq
  have A3:=A.same s3 (Nat.le_refl _)
  walk_at "wp"
  refine ⟨true,Oi hq,?_⟩
  walk_at "wp"
  refine ⟨_,bA.of hq,_,bA.of A3.hN,?_⟩
  rw [if_pos rfl]
  refine ⟨_,bA.of A3.hN,?_⟩
  rw [List.length_map,List.length_map]
  refine ⟨by omega,by omega,nH.go (fun i σ H4=>(∃ v6 v7 v8 v9:Option V,σ=[some (.ref a),some (.ref h),some (.ref Nn),some (.ref Rd),some (.ref Td),some (.ref q),v6,v7,v8,v9])∧Same H3 H4) ⟨⟨_,_,_,_,rfl⟩,Same.refl _⟩ ?_ ?_⟩
  ·rintro i σ H4 N hi ⟨⟨v6,v7,v8,v9,rfl⟩,s4⟩ hN
   obtain ⟨e,he⟩:∃ e,ks[i]? = some e:=⟨_,List.getElem?_eq_getElem hi⟩
   have hem:=List.mem_of_getElem? he
   have nat:atI ((ks.map cR).map V.str) (i:Int)=some (.str (cR e)):=atI_nat (by rw [List.getElem?_map,List.getElem?_map,he];rfl)
   have A4:=A3.same s4 (Nat.le_refl _)
   have hq4:=s4 _ _ hq
   have s04:=s2.trans (s3.trans s4)
   walk_at "wp"
   refine ⟨_,bA.of A4.hN,_,nat,_,bA.of hq4,_,nat,?_⟩
   walk_at "wp"
   refine ⟨_,bA.of hq4,_,nat,?_⟩
   walk_at "wp"
   have hS4:=s04.sq hS
   refine ⟨a,ns,3,rfl,hS4,?_⟩
   walk_at "wp"
   obtain ⟨lim,hl0,hl⟩:=dH (x:=cell ns 3) (m:=401) (by decide)
   rw [show ((401:Nat):Int)=401 from rfl] at hl0
   rw [hl0]
   refine Sx.map (f:=fun j:Nat=>vI ((cell ns 3 / 401+mixed (lim:Int) (j:Int)) % 400).toNat) (aD (by decide)) (fun j H5 R hj h5 hR=>?_) (fun nl H5 fnl hnl s5=>?_)
   ·walk_at "wp"
    refine ⟨a,ns,3,rfl,h5.sq hS4,?_⟩
    walk_at "wp"
    refine ⟨gQ (by decide) (by decide),_,_,rfl,?_⟩
    walk_at "wp"
    rw [show (cell ns 3 / 401+mixed (lim:Int) (j:Int)) % 400=((((cell ns 3 / 401+mixed (lim:Int) (j:Int)) % 400).toNat:Nat):Int) from (Int.toNat_of_nonneg (Int.emod_nonneg _ (by decide))).symm]
    exact hR _ (Same.refl _)
   have A5:=A4.same s5 (Nat.le_refl _)
   have hB:=A5.bk e hem
   have gR:=DGet.k (k:=Sum.inr (cR e)) A5.hR
   rw [gW (by have:=A5.k3 e hem;omega) r4,if_pos (A5.kr e hem)] at gR
   refine ⟨_,gR,h,(B e).wr,nl,cR e,(B e).ws,(List.range 2).map (fun j:Nat=>((cell ns 3 / 401+mixed (lim:Int) (j:Int)) % 400).toNat),lim,rfl,A5.kp hem,hB.hwr,by rw [hnl,List.map_map];rfl,hB.bk,by omega,fun n hn=>?_,fun H6 s6=>?_⟩
   ·obtain ⟨j,_,rfl⟩:=List.mem_map.mp hn
    have:=Int.emod_lt_of_pos (cell ns 3 / 401+mixed (lim:Int) (j:Int)) (show (0:Int)<400 by decide)
    omega
   walk_at "wp"
   exact hN _ _ ⟨⟨_,_,_,_,rfl⟩,s4.trans (s5.trans s6)⟩
  rintro σ H4 ⟨⟨v6,v7,v8,v9,rfl⟩,s4⟩
  have A4:=A3.same s4 (Nat.le_refl _)
  walk_at "wp"
  refine ⟨_,_,A4.hh,by rfl,by decide,fun p fp=>?_⟩
  have s5:=Same.new (o:=.lst ([1,0].map vI)) fp
  have p5:=upd_same (H:=H4) (a:=p) (o:=.lst ([1,0].map vI))
  rw [show upd H4 p (.lst [V.int 1,V.int 0])=upd H4 p (.lst ([1,0].map vI)) from rfl]
  generalize upd H4 p (.lst ([1,0].map vI))=H5 at s5 p5
  have b2:Bk [1,0]:=⟨by decide,by decide,by decide⟩
  refine ⟨h,dx,d,p,_,cR 3,[1,0],rfl,s5 _ _ A4.hh,s5 _ _ A4.hd,by rw [gW (by decide) k4,if_neg (fun z=>by have:=A.k3 3 z;omega)],by unfold qp;rw [List.length_map];omega,bA.of p5,b2,fun b bx wl tl H6 fb W5 W6 n1 hd6 hb6 YD YF h6=>?_⟩
  walk_at "wp"
  refine ⟨by decide,fun p1 f1=>⟨by decide,fun p2 f2=>?_⟩⟩
  have s7:=(Same.new (o:=.lst [V.int 1,V.int 0]) f1).trans (Same.new (o:=.lst [V.int 0,V.int 399]) f2)
  refine ⟨h,p1,p2,cR 3,[1,0],[0,399],399,rfl,⟨dx,d,b,bx,wl,tl,_,s7 _ _ (h6 _ _ (aV (bB:=bB) (by have:=A4.lh;have:=A4.ld;omega)) (s5 _ _ A4.hh)),s7 _ _ hd6,?_,s7 _ _ hb6,s7 _ _ YD⟩,Same.new f2 _ _ upd_same,upd_same,b2,by decide,by decide,fun H8 _=>k _⟩
  exact J1 (by rw [gW (by decide) k4,if_neg (fun z=>by have:=A.k3 3 z;omega)])
end
end My
namespace My
open PySem PySem.Spec PyProof.Rows L2
theorem all_mk {P:Program} {w:World} {K:PySem.W.Frag} {h:Heap} {mg:Str→Option Value} {fa:Addr} {yC:Value} {Ad:Value} {yD:Value} {yE:Value} {uD:Value} {Ae:Value} {uE:Value} {Af:Value} {nF:Value} {yF:Value} {iT:Addr} {eZ:Addr} {lY:Addr} {nG:Addr} {qN:Addr} {pP:Addr} {W7:Addr} {aa6 aa7 YH aa8 Rg aa9:Value} {abb abd:Option Addr} {YJ:Array (Option Value)} (KX:K.In h) (G:h.Ns mainGlobals mg) (hmg:mg "law" = some (.ref fa))
  (IV:PySem.W.nsIn K mainGlobals "bool" = some none)
  (IW:PySem.W.nsIn K mainGlobals "dict" = some none)
  (qO:PySem.W.nsIn K mainGlobals "enumerate" = some none)
  (Nq:PySem.W.nsIn K mainGlobals "int" = some none)
  (nW:PySem.W.nsIn K mainGlobals "isinstance" = some none)
  (Nr:PySem.W.nsIn K mainGlobals "len" = some none)
  (I9:PySem.W.nsIn K mainGlobals "list" = some none)
  (Nt:PySem.W.nsIn K mainGlobals "min" = some none)
  (Ea:PySem.W.nsIn K mainGlobals "range" = some none)
  (Nu:PySem.W.nsIn K mainGlobals "set" = some none)
  (zQ:PySem.W.nsIn K mainGlobals "sorted" = some none)
  (Nv:PySem.W.nsIn K mainGlobals "str" = some none)
  (Nx:PySem.W.nsIn K mainGlobals "sum" = some none)
  (nY:PySem.W.nsIn K mainGlobals "LEAST_BASE" = some (some yC))
  (nZ:∃ t,yC=.int (2) t)
  (qP:PySem.W.nsIn K mainGlobals "MOST_BASE" = some (some Ad))
  (qQ:∃ t,Ad=.int (16) t)
  (n8:PySem.W.nsIn K mainGlobals "MOST_BOOKS" = some (some yD))
  (oh:∃ t,yD=.int (20) t)
  (ou:PySem.W.nsIn K mainGlobals "MOST_BOUND" = some (some yE))
  (oA:∃ t,yE=.int (451) t)
  (jG:PySem.W.nsIn K mainGlobals "MOST_COUNTED" = some (some uD))
  (jH:∃ t,uD=.int (20) t)
  (qR:PySem.W.nsIn K mainGlobals "MOST_FALL" = some (some Ae))
  (qT:∃ t,Ae=.int (1000) t)
  (jJ:PySem.W.nsIn K mainGlobals "MOST_FIGURES" = some (some uE))
  (jK:∃ t,uE=.int (1001) t)
  (qU:PySem.W.nsIn K mainGlobals "MOST_KEPT" = some (some Af))
  (qW:∃ t,Af=.int (200) t)
  (gC:PySem.W.nsIn K mainGlobals "MOST_ONE_BY_ONE" = some (some nF))
  (gD:∃ t,nF=.int (3000) t)
  (oE:PySem.W.nsIn K mainGlobals "MOST_WORTH" = some (some yF))
  (oF:∃ t,yF=.int (50) t)
  (dF:PySem.W.nsIn K mainGlobals "counts_below_counts" = some (some (.ref iT)))
  (dG:PySem.W.nsIn K mainGlobals "counts_below" = some (some (.ref iT)))
  (cG:PySem.W.nsIn K mainGlobals "counts_one_by_one_counts" = some (some (.ref eZ)))
  (cH:PySem.W.nsIn K mainGlobals "counts_one_by_one" = some (some (.ref eZ)))
  (fL:PySem.W.nsIn K mainGlobals "number_at_places" = some (some (.ref lY)))
  (fM:PySem.W.nsIn K mainGlobals "number_at" = some (some (.ref lY)))
  (gF:PySem.W.nsIn K mainGlobals "place_of_places" = some (some (.ref nG)))
  (gG:PySem.W.nsIn K mainGlobals "place_of" = some (some (.ref nG)))
  (yG:PySem.W.nsIn K mainGlobals "Book" = some (some (.ref qN)))
  (Ja:PySem.W.plainGet K qN Str.empty=true)
  (Jb:PySem.W.hasDictIn K qN=true)
  (Jc:PySem.W.plainOver K qN=true)
  (Jd:PySem.W.findIn K (.ref qN) "__setattr__" = some (some (.builtin "object.__setattr__")))
  (yH:PySem.W.nsIn K mainGlobals "House" = some (some (.ref pP)))
  (Eb:PySem.W.plainGet K pP Str.empty=true)
  (Ec:PySem.W.hasDictIn K pP=true)
  (Ed:PySem.W.plainOver K pP=true)
  (Ef:PySem.W.findIn K (.ref pP) "__setattr__" = some (some (.builtin "object.__setattr__")))
  (qX:PySem.W.findIn K (.ref qN) "told" = some none)
  (lZ:PySem.W.findIn K (.ref qN) "worths" = some none)
  (mj:PySem.W.findIn K (.ref pP) "books" = some none)
  (qY:aM K mg "_law_whole" jY ["_law_found"])
  (wk:aM K mg "_law_row" qu ["_law_found","_law_due"])
  (uF:aM K mg "filled_up" mW ["worths","first","behind","more","left"])
  (qZ:aM K mg "sum_behind" jZ ["ways","ahead","worths"])
  (oG:aM K mg "taken_apart" jg ["number","base"])
  (Eh:aM K mg "fallen" xM ["worths","number"])
  (oH:aM K mg "least_first" jh ["ring"])
  (Ny:aM K mg "fits" Ih ["number","base"])
  (mq:aM K mg "check_number" ig ["number","base"])
  (oJ:aM K mg "check_worth" ji ["worth"])
  (rm:aM K mg "check_base" j4 ["base"])
  (mC:aM K mg "check_worths" iu ["worths"])
  (zR:aM K mg "walk_of" uO ["worths","number"])
  (zT:aM K mg "ring_of" uP ["worths","number"])
  (wu:aM K mg "bound_of" qw ["worths"])
  (wz:aM K mg "rings_of" qx ["worths"])
  (oK:aM K mg "ring_places" jj ["worths"])
  (oM:aM K mg "ways_behind" jk ["worths","ring_place"])
  (jL:aM K mg "place_of_ring" fY ["worths","least"])
  (uG:aM K mg "number_at" m5 ["worths","least","place"])
  (jM:MethAt K "House" "book_of" "House.book_of" fZ ["self","name"])
  (iG:MethAt K "House" "number_at" "House.number_at" dY ["self","name","least","place"])
  (wA:aM K mg "add_each" qy ["tally","ahead","worths"])
  (rA:aM K mg "lengthened" j6 ["tally","worths"])
  (oN:aM K mg "tally_below" jl ["worths","limit"])
  (oO:aM K mg "check_limit" jm ["limit","most"])
  (iH:aM K mg "first_uncounted" dZ ["base"])
  (mD:aM K mg "counts_below" iw ["worths","limit"])
  (jN:aM K mg "check_counted" f9 ["number","base"])
  (wB:aM K mg "place_of" qz ["worths","number"])
  (iZ:MethAt K "House" "place_of" "House.place_of" fC ["self","name","number"])
  (fO:aM K mg "counts_one_by_one" cZ ["worths","limit"])
  (cU:MethAt K "House" "counts_one_by_one" "House.counts_one_by_one" bV ["self","name","limit"])
  (fj:MethAt K "House" "counts_below" "House.counts_below" cY ["self","name","limit"])
  (uH:aM K mg "_law_fall" m9 ["_law_row_here","_law_number"])
  (rB:aM K mg "_law_homes" j9 ["_law_row_here","_law_top"])
  (mF:aM K mg "_law_counted" iz ["_law_house","_law_name","_law_row_here","_law_limit","_law_numbers"])
  (jO:vJ K "Book" "Book.__init__" gj ["self","worths"])
  (rC:MethAt K "House" "keep" "House.keep" kh ["self","name","worths"])
  (zU:aM K mg "_law_at" uQ ["_law_script","_law_k"])
  (rD:aM K mg "_law_mixed" kj ["_law_cell","_law_place"])
  (oR:MethAt K "House" "names" "House.names" jo ["self"])
  (jP:aM K mg "check_figures" gk ["row","base"])
  (rE:MethAt K "House" "tell" "House.tell" kI ["self","name","figure","worth"])
  (iI:MethAt K "House" "take_back" "House.take_back" eF ["self","name"])
  (rF:MethAt K "House" "drop" "House.drop" kJ ["self","name"])
  (oU:aM K mg "_law_played" jq ["_law_house","_law_cells","_law_kept","_law_rows","_law_told"])
  (uI:aM K mg "_law_book" nu ["_law_script","_law_k"])
  (jc:vJ K "House" "House.__init__" fD ["self"])
  (W8:PySem.W.nsIn K mainGlobals "law" = some (some (.ref W7)))
  (W9:K.lookup W7=some ⟨aa6,abb,.func (PySem.W.fnOf "law" "law" (defArgs Dw) (defBody Dw) (defScope Dw) .none aa7 YH aa8 abd Rg aa9),YJ⟩)
  (Nz:PySem.W.codeIn K Rg "law" = true)
  (NK:PySem.W.keepIn K (.ref W7)=true) :
  ∃ fd:FuncData,(∀ (s:Shared) (v:Value),BindsTo s fd ⟨[v],[]⟩ [("_law_script",v)])∧∀ base:Heap,K.In base→base.Ns mainGlobals mg→FnOk P w K mg base CX0 11 fa fd ["_law_script"] (M9 K):=by
 have T:Txt mg:=Txt.mk (PySem.W.mg_none_of KX G IV) (PySem.W.mg_none_of KX G IW) (PySem.W.mg_none_of KX G qO) (PySem.W.mg_none_of KX G Nq) (PySem.W.mg_none_of KX G nW) (PySem.W.mg_none_of KX G Nr) (PySem.W.mg_none_of KX G I9) (PySem.W.mg_none_of KX G Nt) (PySem.W.mg_none_of KX G Ea) (PySem.W.mg_none_of KX G Nu) (PySem.W.mg_none_of KX G zQ) (PySem.W.mg_none_of KX G Nv) (PySem.W.mg_none_of KX G Nx) (L2.u0 (PySem.W.mg_of KX G nY) nZ) (L2.u0 (PySem.W.mg_of KX G qP) qQ) (L2.u0 (PySem.W.mg_of KX G n8) oh) (L2.u0 (PySem.W.mg_of KX G ou) oA) (L2.u0 (PySem.W.mg_of KX G jG) jH) (L2.u0 (PySem.W.mg_of KX G qR) qT) (L2.u0 (PySem.W.mg_of KX G jJ) jK) (L2.u0 (PySem.W.mg_of KX G qU) qW) (L2.u0 (PySem.W.mg_of KX G gC) gD) (L2.u0 (PySem.W.mg_of KX G oE) oF) ((PySem.W.mg_of KX G dF).trans (PySem.W.mg_of KX G dG).symm) ((PySem.W.mg_of KX G cG).trans (PySem.W.mg_of KX G cH).symm) ((PySem.W.mg_of KX G fL).trans (PySem.W.mg_of KX G fM).symm) ((PySem.W.mg_of KX G gF).trans (PySem.W.mg_of KX G gG).symm)
 have bJ:ClsAt K mg "Book":=JF KX G yG Ja Jb Jc Jd
 have aG:ClsAt K mg "House":=JF KX G yH Eb Ec Ed Ef
 have bR:pB K "Book" "told":=Hu yG qX
 have aK:pB K "Book" "worths":=Hu yG lZ
 have aQ:pB K "House" "books":=Hu yH mj
 refine L2.aan (st:=Dw) KX G hmg W8 W9 Nz NK (fun s v=>.of_eq rfl) ?_
 intro base fd F
 have qG:=Fl (P:=P) (w:=w) (base:=base) T qY 
 have lX:=KN (P:=P) (w:=w) (base:=base) T wk qG
 have uq:=Ir (P:=P) (w:=w) (base:=base) T uF 
 have qI:=Fo (P:=P) (w:=w) (base:=base) T qZ 
 have dM:=Dz (P:=P) (w:=w) (base:=base) T oG 
 have cN:=Sq (P:=P) (w:=w) (base:=base) T Eh dM
 have nP:=DG (P:=P) (w:=w) (base:=base) T oH 
 have Nb:=Yu (P:=P) (w:=w) (base:=base) T Ny 
 have lU:=Bd (P:=P) (w:=w) (base:=base) T mq Nb
 have dO:=DK (P:=P) (w:=w) (base:=base) T oJ 
 have qH:=Fp (P:=P) (w:=w) (base:=base) T rm 
 have aJ:=Bf (P:=P) (w:=w) (base:=base) T mC dO qH
 have zK:=Nf (P:=P) (w:=w) (base:=base) T zR cN lU aJ
 have cV:=Ng (P:=P) (w:=w) (base:=base) T zT nP cN zK
 have iV:=KQ (P:=P) (w:=w) (base:=base) T wu cN aJ
 have bK:=KR (P:=P) (w:=w) (base:=base) T wz cV cN iV
 have dU:=DP (P:=P) (w:=w) (base:=base) T oK cN cV iV bK
 have nQ:=DQ (P:=P) (w:=w) (base:=base) T oM qI dU
 have jC:=zL (P:=P) (w:=w) (base:=base) T jL bK
 have ur:=Iw (P:=P) (w:=w) (base:=base) T uG uq nQ jC aJ
 have aF:=zM (P:=P) (w:=w) (base:=base) T jM aG aQ 
 have iB:=vY (P:=P) (w:=w) (base:=base) T iG bJ aG aK ur aF
 have lV:=KY (P:=P) (w:=w) (base:=base) T wA 
 have qJ:=Fq (P:=P) (w:=w) (base:=base) T rA 
 have nR:=DR (P:=P) (w:=w) (base:=base) T oN lV qJ dM
 have dW:=DW (P:=P) (w:=w) (base:=base) T oO 
 have cA:=vZ (P:=P) (w:=w) (base:=base) T iH 
 have dj:=Bh (P:=P) (w:=w) (base:=base) T mD nR dU bK dW cA aJ
 have jD:=zN (P:=P) (w:=w) (base:=base) T jN cA
 have wg:=KZ (P:=P) (w:=w) (base:=base) T wB dj bK cV jD aJ
 have iW:=yw (P:=P) (w:=w) (base:=base) T iZ bJ aG aK wg aF
 have fK:=ux (P:=P) (w:=w) (base:=base) T fO cV bK dW aJ
 have cT:=lW (P:=P) (w:=w) (base:=base) T cU bJ aG aK fK aF
 have eY:=sG (P:=P) (w:=w) (base:=base) T fj bJ aG aK dj aF
 have uy:=Iz (P:=P) (w:=w) (base:=base) T uH 
 have qK:=Ft (P:=P) (w:=w) (base:=base) T rB uy
 have iD:=Bj (P:=P) (w:=w) (base:=base) T mF aG lX iB iW cT eY qK
 have jE:=zO (P:=P) (w:=w) (base:=base) T jO bJ bR aK 
 have dD:=Fv (P:=P) (w:=w) (base:=base) T rC bJ aG aQ jE aJ
 have fG:=Nk (P:=P) (w:=w) (base:=base) T zU 
 have cj:=Fw (P:=P) (w:=w) (base:=base) T rD 
 have nT:=DX (P:=P) (w:=w) (base:=base) T oR aG aQ 
 have jF:=zP (P:=P) (w:=w) (base:=base) T jP 
 have qL:=Fx (P:=P) (w:=w) (base:=base) T rE bJ aG bR aK dO jF aF
 have iC:=wj (P:=P) (w:=w) (base:=base) T iI bJ aG bR aK aF
 have qM:=Fy (P:=P) (w:=w) (base:=base) T rF aG aQ aF
 have nU:=DY (P:=P) (w:=w) (base:=base) T oU aG dD cj qL iC qM
 have uz:=IK (P:=P) (w:=w) (base:=base) T uI cj fG
 have iY:=yx (P:=P) (w:=w) (base:=base) T jc aG aQ 
 exact aa5 T F aG iD dD fG cj nT nU uz iY
end My
namespace PySem.W.Fast
def tw10004993082211540758:=0
def tw10060478974978812451:=0
def tw10103590219348792381:=0
def tw10118818414531926179:=0
def tw10141483857926545019:=0
def tw10150982852924716751:=0
def tw10156973561791773553:=0
def tw10162456829296294697:=0
def tw10187870418492710343:=0
def tw10223702015973078903:=0
def tw10292029400136399428:=0
def tw10300474586273531806:=0
def tw10304617421788633833:=0
def tw10318802855800822054:=0
def tw10359281487067165650:=0
def tw10408410635287023466:=0
def tw1055323912752009992:=0
def tw10555947908974828195:=0
def tw10618051551319195347:=0
def tw1064854642742867194:=0
def tw10655861065149712147:=0
def tw10705396870651806940:=0
def tw10746723090218124530:=0
def tw10749137182810864201:=0
def tw10759509181550095282:=0
def tw10775113943842590045:=0
def tw1083150689889244359:=0
def tw10840781528236877414:=0
def tw10840913930125083228:=0
def tw10850638932710450408:=0
def tw10857816818037893797:=0
def tw1086267391058450821:=0
def tw10908929746946255600:=0
def tw10924815535426491405:=0
def tw10992298829372238895:=0
def tw11013343676221242918:=0
def tw11015568609411724312:=0
def tw11055225882226976244:=0
def tw11109332127441876794:=0
def tw11123917023290511724:=0
def tw11135851454276427148:=0
def tw11144039393594708672:=0
def tw11144209583884926565:=0
def tw11166717139799745022:=0
def tw11177543455190246920:=0
def tw11218434696100860920:=0
def tw11238941631113118372:=0
def tw11256089983876561645:=0
def tw11263280319809935987:=0
def tw11263448126432966116:=0
def tw11273877819275237305:=0
def tw1130872944273001067:=0
def tw11313646244872210680:=0
def tw1137645248902742111:=0
def tw11400909142158096668:=0
def tw11415546871710772223:=0
def tw11418870107279646920:=0
def tw11426434403686781352:=0
def tw11527972580126723105:=0
def tw11533654216268681718:=0
def tw11592660359481701223:=0
def tw11651822803861292616:=0
def tw11665663396269805406:=0
def tw11759660127165241711:=0
def tw11764409367279206451:=0
def tw11766823214844629732:=0
def tw11837219507167780484:=0
def tw118511367019598711:=0
def tw11855757898392454436:=0
def tw11889065175301258940:=0
def tw11917852889763955685:=0
def tw1192306497294843954:=0
def tw11958364547729978144:=0
def tw11964870625381858137:=0
def tw11989572344774663850:=0
def tw11991512611134955346:=0
def tw12006067101004965100:=0
def tw12033610612816003408:=0
def tw12034183277223213731:=0
def tw12074343660119278311:=0
def tw12085428973417124750:=0
def tw12089300618095391770:=0
def tw1210884669682708755:=0
def tw12111944501843576969:=0
def tw12194590463146165346:=0
def tw12214464848389558119:=0
def tw12233657068119479563:=0
def tw12244944426116199036:=0
def tw12270114115450034239:=0
def tw12285717642714243423:=0
def tw12299103745441531453:=0
def tw12313640790621124218:=0
def tw1237842379574788218:=0
def tw12397374381881692432:=0
def tw12408363985770397523:=0
def tw12438917668780662667:=0
def tw12442288481743481006:=0
def tw12461063098786133913:=0
def tw12490839457330473817:=0
def tw12534843882445157303:=0
def tw1255166344277445055:=0
def tw12578435130990302729:=0
def tw12688429876955962382:=0
def tw12713144399807295177:=0
def tw12722978664846428191:=0
def tw12742707685210303623:=0
def tw12760341069522795650:=0
def tw12764530825352980868:=0
def tw12889364415425238638:=0
def tw12892333784724871536:=0
def tw12902438532011256244:=0
def tw12919495340125913926:=0
def tw12961088042136984910:=0
def tw12962131257121997909:=0
def tw12972643027216397801:=0
def tw12990743861750838170:=0
def tw13001102743622091777:=0
def tw13006955970891544125:=0
def tw13010922818763406201:=0
def tw1304897270847286702:=0
def tw13106718577213900018:=0
def tw13132685957363500223:=0
def tw13148723063902144187:=0
def tw13202451391069895725:=0
def tw13209939641185253483:=0
def tw13239959279602839612:=0
def tw13287212281174780772:=0
def tw13293181860686881014:=0
def tw13293631557599089169:=0
def tw13302865872787091157:=0
def tw13321869070861327172:=0
def tw13490752277179423967:=0
def tw13500936350191829341:=0
def tw13508148514272881408:=0
def tw13562394406184690387:=0
def tw13568470665661029614:=0
def tw13571238653231286961:=0
def tw13575672140767964195:=0
def tw1358771488024007182:=0
def tw13601276009721562116:=0
def tw13661094866528666573:=0
def tw13679219132096286777:=0
def tw13682452111937611870:=0
def tw13692495640182329212:=0
def tw13705704634959454643:=0
def tw13724963729774948076:=0
def tw13753009202933898985:=0
def tw13802180563615884028:=0
def tw13874138756317219845:=0
def tw13895876244543450257:=0
def tw13914744071443532099:=0
def tw13915091973417920553:=0
def tw13947629232500518334:=0
def tw13953335175976623848:=0
def tw13962055918338876977:=0
def tw13973404425583978938:=0
def tw14046145033859418990:=0
def tw14053934707785004018:=0
def tw14079103756497898441:=0
def tw14095723154916423422:=0
def tw14163135447304757373:=0
def tw14165281919391225521:=0
def tw14204263788422381293:=0
def tw14227991654302666158:=0
def tw14229019188625333161:=0
def tw1425063778211780692:=0
def tw14255939815671789818:=0
def tw14270629416021754231:=0
def tw14279109072276244778:=0
def tw14317761189746884115:=0
def tw14334708593059591147:=0
def tw14375894655825665392:=0
def tw14383263404952410474:=0
def tw14429522126173009643:=0
def tw14475549085961608095:=0
def tw14559308183868819154:=0
def tw14562542580349455723:=0
def tw14579345567896161797:=0
def tw1460134860508204159:=0
def tw14636225751370362020:=0
def tw14648894630647279034:=0
def tw14650680059878777953:=0
def tw14686742036509537552:=0
def tw14689108378025600128:=0
def tw1469063326582395420:=0
def tw14694066412894220136:=0
def tw14701026957883362065:=0
def tw14713807748130927440:=0
def tw14733906208981792885:=0
def tw14745693829216151062:=0
def tw14746001237820335281:=0
def tw14765342822631931522:=0
def tw14768640753096146830:=0
def tw14814725481652699521:=0
def tw14828437736436556717:=0
def tw14837028827040162240:=0
def tw14907346957035229555:=0
def tw14918675860657145820:=0
def tw1496769946605309154:=0
def tw14976290265686558932:=0
def tw15025019820291288983:=0
def tw1504583022742002018:=0
def tw15085234130082770695:=0
def tw15085281787660027766:=0
def tw15087487784524290273:=0
def tw15088920088798587761:=0
def tw15177537088723698145:=0
def tw15239378101857574039:=0
def tw15271693081859372192:=0
def tw15275919211443054728:=0
def tw15295267454914711975:=0
def tw15369865328951153212:=0
def tw1537010019349420017:=0
def tw1537568421161700418:=0
def tw15415934304674247555:=0
def tw15420978124348572250:=0
def tw15422442883579813606:=0
def tw15425396013482436295:=0
def tw15429407592838069362:=0
def tw15448600259195807371:=0
def tw15465278928416193122:=0
def tw15469063185215360255:=0
def tw15477349561145966493:=0
def tw15521028888582782674:=0
def tw15551112602731222048:=0
def tw15558532709196726953:=0
def tw15580705894349935452:=0
def tw1559275592477531741:=0
def tw15602883203151714033:=0
def tw15800939617140719679:=0
def tw15813550094422411019:=0
def tw15820482953836025459:=0
def tw15859985054238660559:=0
def tw15907987752454415738:=0
def tw1595536573299382638:=0
def tw15970538212395649815:=0
def tw15985123566271071047:=0
def tw15994492667687242127:=0
def tw16036230585093753018:=0
def tw16046953084901229178:=0
def tw16058177960269985016:=0
def tw16082874936227111914:=0
def tw16136123591591174586:=0
def tw16170297299400078535:=0
def tw1618259225284580851:=0
def tw16188164132533560450:=0
def tw16198019326024320198:=0
def tw16229498148959928781:=0
def tw1623899510081454734:=0
def tw16275180441842072844:=0
def tw16363018588611507208:=0
def tw16380911774156124059:=0
def tw16394491016597389369:=0
def tw16396339020990963166:=0
def tw16442108435868171814:=0
def tw16443202636575371508:=0
def tw16463345835769332917:=0
def tw16471118025789392790:=0
def tw16515457962847746260:=0
def tw16574005939804428672:=0
def tw16574418006555596267:=0
def tw16617304600794935392:=0
def tw16617520377347921712:=0
def tw1661769474870882969:=0
def tw16629055459739252326:=0
def tw16676532885992498945:=0
def tw16711929831485967461:=0
def tw16725249484391444887:=0
def tw16732586346280156987:=0
def tw16749192631180454467:=0
def tw16783531097684812325:=0
def tw1679515053920241814:=0
def tw16847697447568334862:=0
def tw16867773236852271271:=0
def tw16870371858724206686:=0
def tw16886334316582474042:=0
def tw16894710999601574114:=0
def tw16905712940022468477:=0
def tw16951068965724596464:=0
def tw16989559275008281929:=0
def tw16998932818788707904:=0
def tw17033590351713426962:=0
def tw17056939117589805534:=0
def tw17058203992693967583:=0
def tw17084077253175166520:=0
def tw17102314514523871489:=0
def tw17105123278933185022:=0
def tw17108035610657806533:=0
def tw17120222984668223188:=0
def tw17135618455546637615:=0
def tw17149314757488086303:=0
def tw17177661132705196870:=0
def tw17310441278663853664:=0
def tw17315809867250753658:=0
def tw17329507186700371197:=0
def tw17355826476203690704:=0
def tw173580038790457037:=0
def tw17364100987411664338:=0
def tw17374622363759152118:=0
def tw1741682774236616759:=0
def tw17420524309602686414:=0
def tw175316027024847054:=0
def tw17541408000431308956:=0
def tw17609238409127879091:=0
def tw17622673008957257355:=0
def tw17628627633814031033:=0
def tw17643730556924536623:=0
def tw17707071053419757546:=0
def tw17709713170569174917:=0
def tw17710246977393492790:=0
def tw17795660582765567053:=0
def tw17802374442819021958:=0
def tw17819089439549359957:=0
def tw17832942844543855487:=0
def tw17882567516256012335:=0
def tw17900692115876971149:=0
def tw17920807950187142252:=0
def tw17921656392139821779:=0
def tw17927992534815208336:=0
def tw17940483726400544796:=0
def tw17985610476269723294:=0
def tw17994371035494461312:=0
def tw18017561247571852433:=0
def tw18047134285122177557:=0
def tw18101207758131926102:=0
def tw18109584393649640951:=0
def tw18121788234780895893:=0
def tw18161799414994607424:=0
def tw18213803617015962106:=0
def tw18238687953125771090:=0
def tw18249771026314271439:=0
def tw18251545006789836644:=0
def tw18282950704774440639:=0
def tw18300103687708976320:=0
def tw18326152002999686520:=0
def tw18334783830786297405:=0
def tw18347633982717255491:=0
def tw18374497836871557174:=0
def tw18381171932102137475:=0
def tw18411553185266294103:=0
def tw18435336918570209847:=0
def tw18435440426900204954:=0
def tw1852776836534459687:=0
def tw1912297651378869527:=0
def tw1921207226799116975:=0
def tw1978709510155239786:=0
def tw2081780550697713684:=0
def tw2125997467835326533:=0
def tw2249931091189189893:=0
def tw226761383719990396:=0
def tw2293254907563359834:=0
def tw2316214671835730254:=0
def tw2355490784650358863:=0
def tw2374934192769410830:=0
def tw2385014433672412206:=0
def tw242699515860300220:=0
def tw2437861284667568238:=0
def tw2441433118071166387:=0
def tw2474793228048053289:=0
def tw2480799150524846232:=0
def tw2504137073974929541:=0
def tw256347080646395550:=0
def tw2579393815412118115:=0
def tw2588272128573519029:=0
def tw2591134447219697280:=0
def tw2606079072874732904:=0
def tw2624285027803948343:=0
def tw2625218147019727441:=0
def tw2702058419353575034:=0
def tw2710952372574617539:=0
def tw2787565697156207556:=0
def tw2807154998795814004:=0
def tw2851536920550146342:=0
def tw2882020948006011025:=0
def tw2922390305511030022:=0
def tw2947869350719634371:=0
def tw2992105409166763830:=0
def tw3028362953931971656:=0
def tw3102459398338478874:=0
def tw3126215305553980438:=0
def tw3129457139888005141:=0
def tw3210739152751070785:=0
def tw3250307388056673353:=0
def tw328550562059002172:=0
def tw3293901068021171690:=0
def tw3305504777850675652:=0
def tw3335774709419018843:=0
def tw3422961625798204491:=0
def tw3468514922098916778:=0
def tw3493046209128082246:=0
def tw3518335191222498319:=0
def tw3537020725857350523:=0
def tw3604495240463507100:=0
def tw3618667701220847196:=0
def tw3634640888780922283:=0
def tw3670282099368748834:=0
def tw3680711195166540608:=0
def tw3696807339964051792:=0
def tw3702440426789244380:=0
def tw3708922286120244479:=0
def tw3736151845931915312:=0
def tw379265025248928526:=0
def tw3798130490836814023:=0
def tw3823502007429852837:=0
def tw3832739033950119225:=0
def tw3844503332861165990:=0
def tw3852911902008930062:=0
def tw3882691875165593600:=0
def tw3912095734930092587:=0
def tw3913829377835412685:=0
def tw3915412683363716851:=0
def tw3967423286455465871:=0
def tw3999789749863697455:=0
def tw4038563536612621286:=0
def tw4066957278924001565:=0
def tw4072268208189956017:=0
def tw4083521530514327251:=0
def tw4084383151680916561:=0
def tw411140958945373347:=0
def tw4120934299634423269:=0
def tw4131742535701898105:=0
def tw4133133831027794538:=0
def tw4182291785595094616:=0
def tw4225105215645042942:=0
def tw424535049055654891:=0
def tw4268479449693040175:=0
def tw4311926466757176367:=0
def tw4353463550794367855:=0
def tw4358014642028472474:=0
def tw4361815496306365845:=0
def tw4380257866073934737:=0
def tw4483023458390469812:=0
def tw4489695424938540965:=0
def tw4525026329334375232:=0
def tw4532611244311057717:=0
def tw4572233169992050978:=0
def tw4575524443423151585:=0
def tw4592410686615116658:=0
def tw4600812482041096151:=0
def tw4626964287739065826:=0
def tw4719885125098328655:=0
def tw4730159587778393583:=0
def tw4730327454863705567:=0
def tw476029294483619081:=0
def tw4813572659245929876:=0
def tw4815520279137040560:=0
def tw4847286671689987270:=0
def tw4885411098577801218:=0
def tw4945864581899091073:=0
def tw5009802688523703221:=0
def tw5033007382900901125:=0
def tw507303028402458265:=0
def tw5081455527864271762:=0
def tw5087147369255740826:=0
def tw5124119380738016312:=0
def tw5124601745847992293:=0
def tw5136422034637711687:=0
def tw515183340994146453:=0
def tw5156693101091861477:=0
def tw517550753733176891:=0
def tw5196638025476195438:=0
def tw5199463527143337461:=0
def tw5242614514350687849:=0
def tw5257731626362466291:=0
def tw5266124069886898109:=0
def tw5285434626261244735:=0
def tw5305210943334453778:=0
def tw5341627290050248701:=0
def tw5360387812811814581:=0
def tw5397262139114250211:=0
def tw5444871268588644265:=0
def tw5473349389710159143:=0
def tw5529072407160560435:=0
def tw5562067324002490718:=0
def tw5578118174988305738:=0
def tw5589759772606737125:=0
def tw5628382437977142735:=0
def tw5640886432727480046:=0
def tw5648483292115311762:=0
def tw5659058169019254322:=0
def tw5674687706466167745:=0
def tw5682321427868184090:=0
def tw5715729405430752888:=0
def tw5720024305114264489:=0
def tw5756629403172661121:=0
def tw5814154014607025298:=0
def tw5847753932807421389:=0
def tw5860335340449165646:=0
def tw5931889754583439443:=0
def tw5969792546560534420:=0
def tw6021733801766678614:=0
def tw60253468944576446:=0
def tw6026835536280803148:=0
def tw6028811247761576256:=0
def tw6090825580629322667:=0
def tw6112216387586615692:=0
def tw6129667717852956022:=0
def tw6156409563760673902:=0
def tw616148522848190496:=0
def tw6230541306456850574:=0
def tw6250660428500475419:=0
def tw6275053312437091556:=0
def tw6282044456435009638:=0
def tw6344661011754442473:=0
def tw639703665490871092:=0
def tw6451540061955155204:=0
def tw6455614135922020272:=0
def tw6474157885230861444:=0
def tw6530394301592587037:=0
def tw6548098553561662315:=0
def tw6553522669681031401:=0
def tw6574396626968995780:=0
def tw6577585333658973712:=0
def tw6643676254014115015:=0
def tw6647985736268936625:=0
def tw6648140329584862743:=0
def tw6694555586196539520:=0
def tw6701384100656719210:=0
def tw6704809765014084904:=0
def tw6729401311674700329:=0
def tw6751169621638064201:=0
def tw6769653698837590403:=0
def tw6806711255757364935:=0
def tw6823313028243569622:=0
def tw6860578468452902532:=0
def tw6871427279838223651:=0
def tw6913464938229817521:=0
def tw6914197628192446255:=0
def tw6949665463515853564:=0
def tw6950191246373394686:=0
def tw6958974398775831642:=0
def tw6967168152749792055:=0
def tw7048502530022017153:=0
def tw7051477042579027664:=0
def tw7066524340970581752:=0
def tw7088634149334638427:=0
def tw7092786838891075938:=0
def tw7094430092738542004:=0
def tw7122935913239028029:=0
def tw7131416856501713049:=0
def tw7138897599446174748:=0
def tw7139886158984572405:=0
def tw7161359908107468712:=0
def tw7206472435622913982:=0
def tw7212535219704220510:=0
def tw7219283014894441358:=0
def tw7229492602878860915:=0
def tw7229890586257045865:=0
def tw723428174190782654:=0
def tw7246650770476969425:=0
def tw729857586905709139:=0
def tw7310880257720278374:=0
def tw7352866949968276083:=0
def tw7355048712085327482:=0
def tw7358197857142951774:=0
def tw7384538593395645778:=0
def tw7402525086241109313:=0
def tw7412663318164653962:=0
def tw7444495859953059101:=0
def tw7446625263775526007:=0
def tw75081538458591871:=0
def tw7509507526792764646:=0
def tw7526842940414754561:=0
def tw7538624655116917493:=0
def tw7544520256145349004:=0
def tw7610085521813510626:=0
def tw7635931957827719281:=0
def tw7655518299512027444:=0
def tw7671093712941922683:=0
def tw772638285109354367:=0
def tw7779489278148908390:=0
def tw7794401004888717425:=0
def tw7799748697978698402:=0
def tw7818559523966414851:=0
def tw7819539247432713249:=0
def tw7869074547543266822:=0
def tw7887904432054799985:=0
def tw7936976492269526975:=0
def tw7937546502563672200:=0
def tw798611504431287758:=0
def tw8049711973889578523:=0
def tw8062443500131298375:=0
def tw8071801373284439099:=0
def tw8078565958831175341:=0
def tw8118800418986648943:=0
def tw8124766668678038156:=0
def tw814853110867274924:=0
def tw8167372324499511733:=0
def tw8183715277198569302:=0
def tw8185033703393918711:=0
def tw8247749650964264915:=0
def tw8277772546705958111:=0
def tw8296313773436944134:=0
def tw8306813903967115997:=0
def tw8332852592715029760:=0
def tw8366857926224522731:=0
def tw8404720481497594993:=0
def tw8412738274609887785:=0
def tw8421044068461823379:=0
def tw8506125325806328920:=0
def tw8545014900849106159:=0
def tw8579527778863214964:=0
def tw859221790915852430:=0
def tw8675963550849296565:=0
def tw8707403775034793070:=0
def tw8714413961739168278:=0
def tw8746853297398048807:=0
def tw8813635506424677278:=0
def tw8958844844048024684:=0
def tw8979348144516082573:=0
def tw899224315070648962:=0
def tw9019028762964547118:=0
def tw9044246885597571086:=0
def tw9075110153118709264:=0
def tw9103581609346445603:=0
def tw9113525410950725392:=0
def tw91191061683722049:=0
def tw912281505503114901:=0
def tw9157114819421160348:=0
def tw9203902274608675157:=0
def tw9260744600150253537:=0
def tw9308942329648821613:=0
def tw9362426703837548035:=0
def tw9372099761571166337:=0
def tw9465166187397142503:=0
def tw9466273310183325870:=0
def tw956544169144968931:=0
def tw9567696036038256326:=0
def tw9569294315427257691:=0
def tw9585229398340155242:=0
def tw9610950003295496978:=0
def tw9627534923523984055:=0
def tw9629758597574814352:=0
def tw964747120124017810:=0
def tw9655545143639464301:=0
def tw9656682538679181552:=0
def tw9699553097767166327:=0
def tw9703417386746630424:=0
def tw9724757828105083664:=0
def tw9738431161998395779:=0
def tw97934469650238537:=0
def tw9880833916023362392:=0
def tw9923744472882895626:=0
def tw9940381877424439189:=0
def tw9984117409753315953:=0
def tw9988105965718200099:=0
end PySem.W.Fast
local macro_rules | `(tactic| walk_at "fa")=>`(tactic| (refine' L2.U3 (by assumption) (by assumption) ?a ?l ?c ?k ?b;(case a=>k_is);(case l=>k_is);(case c=>k_is);(case k=>k_is)))
local macro_rules | `(tactic| walk_at "fm")=>`(tactic| (refine' L2.XQ (by assumption) ?A ?a ?i ?l ?c ?k ?b;(case A=>k_is);(case a=>k_is);(case i=>k_is);(case l=>k_is);(case c=>k_is);(case k=>k_is)))
local macro_rules | `(tactic| walk_at "fi")=>`(tactic| (refine' L2.XR (by assumption) ?A ?a ?i ?l ?c ?k ?m ?q ?b;(case A=>k_is);(case a=>k_is);(case i=>k_is);(case l=>k_is);(case c=>k_is);(case k=>k_is);(case m=>k_is);(case q=>k_is)))
open PySem PySem.W PyProof.Rows
set_option maxHeartbeats 0 in
theorem PySem.Challenge.cw_figurefall_k42_whole_over_all_holds : PySem.Challenge.rw_figurefall_k42_whole_over_all.Holds := by
 w_on;o_law;k_head;(case hw=>w_witness2)
 k_fill
 refine L2.TX (l:=PySem.Challenge.rw_figurefall_k42_whole_over_all) (n:=63) (k:=11) (x:="_law_script") (CX:=L2.CX0) (sp:=My.M9) rfl (by decide) rfl ⟨rfl,by decide,by decide⟩ (fun w h Y=>PySem.W.kIn_of Y) ?F ?S ?C
 case S=>exact fun _ _ a ns hl _ hS=>⟨a,ns,rfl,hS,hl,fun _=>rfl⟩
 case C=>exact fun _ _ _ _ z=>z
 case F =>
  intro w mg fa h KX G hmg
  refine' My.all_mk KX G hmg ?IV ?IW ?qO ?Nq ?nW ?Nr ?I9 ?Nt ?Ea ?Nu ?zQ ?Nv ?Nx ?nY ?nZ ?qP ?qQ ?n8 ?oh ?ou ?oA ?jG ?jH ?qR ?qT ?jJ ?jK ?qU ?qW ?gC ?gD ?oE ?oF ?dF ?dG ?cG ?cH ?fL ?fM ?gF ?gG ?yG ?Ja ?Jb ?Jc ?Jd ?yH ?Eb ?Ec ?Ed ?Ef ?qX ?lZ ?mj ?qY ?wk ?uF ?qZ ?oG ?Eh ?oH ?Ny ?mq ?oJ ?rm ?mC ?zR ?zT ?wu ?wz ?oK ?oM ?jL ?uG ?jM ?iG ?wA ?rA ?oN ?oO ?iH ?mD ?jN ?wB ?iZ ?fO ?cU ?fj ?uH ?rB ?mF ?jO ?rC ?zU ?rD ?oR ?jP ?rE ?iI ?rF ?oU ?uI ?jc ?W8 ?W9 ?Nz ?NK
  (case IV=>k_is)
  (case IW=>k_is)
  (case qO=>k_is)
  (case Nq=>k_is)
  (case nW=>k_is)
  (case Nr=>k_is)
  (case I9=>k_is)
  (case Nt=>k_is)
  (case Ea=>k_is)
  (case Nu=>k_is)
  (case zQ=>k_is)
  (case Nv=>k_is)
  (case Nx=>k_is)
  (case nY=>k_is)
  (case nZ=>exact ⟨_,rfl⟩)
  (case qP=>k_is)
  (case qQ=>exact ⟨_,rfl⟩)
  (case n8=>k_is)
  (case oh=>exact ⟨_,rfl⟩)
  (case ou=>k_is)
  (case oA=>exact ⟨_,rfl⟩)
  (case jG=>k_is)
  (case jH=>exact ⟨_,rfl⟩)
  (case qR=>k_is)
  (case qT=>exact ⟨_,rfl⟩)
  (case jJ=>k_is)
  (case jK=>exact ⟨_,rfl⟩)
  (case qU=>k_is)
  (case qW=>exact ⟨_,rfl⟩)
  (case gC=>k_is)
  (case gD=>exact ⟨_,rfl⟩)
  (case oE=>k_is)
  (case oF=>exact ⟨_,rfl⟩)
  (case dF=>k_is)
  (case dG=>k_is)
  (case cG=>k_is)
  (case cH=>k_is)
  (case fL=>k_is)
  (case fM=>k_is)
  (case gF=>k_is)
  (case gG=>k_is)
  (case yG=>k_is)
  (case Ja=>k_is)
  (case Jb=>k_is)
  (case Jc=>k_is)
  (case Jd=>k_is)
  (case yH=>k_is)
  (case Eb=>k_is)
  (case Ec=>k_is)
  (case Ed=>k_is)
  (case Ef=>k_is)
  (case qX=>k_is)
  (case lZ=>k_is)
  (case mj=>k_is)
  (case qY=>walk_at "fa";exact fun _ _ _ _ _ _ us hl=>match us,hl with | [_],_=>rfl)
  (case wk=>walk_at "fa";exact fun _ _ _ _ _ _ us hl=>match us,hl with | [_,_],_=>rfl)
  (case uF=>walk_at "fa";exact fun _ _ _ _ _ _ us hl=>match us,hl with | [_,_,_,_,_],_=>rfl)
  (case qZ=>walk_at "fa";exact fun _ _ _ _ _ _ us hl=>match us,hl with | [_,_,_],_=>rfl)
  (case oG=>walk_at "fa";exact fun _ _ _ _ _ _ us hl=>match us,hl with | [_,_],_=>rfl)
  (case Eh=>walk_at "fa";exact fun _ _ _ _ _ _ us hl=>match us,hl with | [_,_],_=>rfl)
  (case oH=>walk_at "fa";exact fun _ _ _ _ _ _ us hl=>match us,hl with | [_],_=>rfl)
  (case Ny=>walk_at "fa";exact fun _ _ _ _ _ _ us hl=>match us,hl with | [_,_],_=>rfl)
  (case mq=>walk_at "fa";exact fun _ _ _ _ _ _ us hl=>match us,hl with | [_,_],_=>rfl)
  (case oJ=>walk_at "fa";exact fun _ _ _ _ _ _ us hl=>match us,hl with | [_],_=>rfl)
  (case rm=>walk_at "fa";exact fun _ _ _ _ _ _ us hl=>match us,hl with | [_],_=>rfl)
  (case mC=>walk_at "fa";exact fun _ _ _ _ _ _ us hl=>match us,hl with | [_],_=>rfl)
  (case zR=>walk_at "fa";exact fun _ _ _ _ _ _ us hl=>match us,hl with | [_,_],_=>rfl)
  (case zT=>walk_at "fa";exact fun _ _ _ _ _ _ us hl=>match us,hl with | [_,_],_=>rfl)
  (case wu=>walk_at "fa";exact fun _ _ _ _ _ _ us hl=>match us,hl with | [_],_=>rfl)
  (case wz=>walk_at "fa";exact fun _ _ _ _ _ _ us hl=>match us,hl with | [_],_=>rfl)
  (case oK=>walk_at "fa";exact fun _ _ _ _ _ _ us hl=>match us,hl with | [_],_=>rfl)
  (case oM=>walk_at "fa";exact fun _ _ _ _ _ _ us hl=>match us,hl with | [_,_],_=>rfl)
  (case jL=>walk_at "fa";exact fun _ _ _ _ _ _ us hl=>match us,hl with | [_,_],_=>rfl)
  (case uG=>walk_at "fa";exact fun _ _ _ _ _ _ us hl=>match us,hl with | [_,_,_],_=>rfl)
  (case jM=>walk_at "fm";exact fun _ _ _ _ _ _ us hl=>match us,hl with | [_,_],_=>rfl)
  (case iG=>walk_at "fm";exact fun _ _ _ _ _ _ us hl=>match us,hl with | [_,_,_,_],_=>rfl)
  (case wA=>walk_at "fa";exact fun _ _ _ _ _ _ us hl=>match us,hl with | [_,_,_],_=>rfl)
  (case rA=>walk_at "fa";exact fun _ _ _ _ _ _ us hl=>match us,hl with | [_,_],_=>rfl)
  (case oN=>walk_at "fa";exact fun _ _ _ _ _ _ us hl=>match us,hl with | [_,_],_=>rfl)
  (case oO=>walk_at "fa";exact fun _ _ _ _ _ _ us hl=>match us,hl with | [_,_],_=>rfl)
  (case iH=>walk_at "fa";exact fun _ _ _ _ _ _ us hl=>match us,hl with | [_],_=>rfl)
  (case mD=>walk_at "fa";exact fun _ _ _ _ _ _ us hl=>match us,hl with | [_,_],_=>rfl)
  (case jN=>walk_at "fa";exact fun _ _ _ _ _ _ us hl=>match us,hl with | [_,_],_=>rfl)
  (case wB=>walk_at "fa";exact fun _ _ _ _ _ _ us hl=>match us,hl with | [_,_],_=>rfl)
  (case iZ=>walk_at "fm";exact fun _ _ _ _ _ _ us hl=>match us,hl with | [_,_,_],_=>rfl)
  (case fO=>walk_at "fa";exact fun _ _ _ _ _ _ us hl=>match us,hl with | [_,_],_=>rfl)
  (case cU=>walk_at "fm";exact fun _ _ _ _ _ _ us hl=>match us,hl with | [_,_,_],_=>rfl)
  (case fj=>walk_at "fm";exact fun _ _ _ _ _ _ us hl=>match us,hl with | [_,_,_],_=>rfl)
  (case uH=>walk_at "fa";exact fun _ _ _ _ _ _ us hl=>match us,hl with | [_,_],_=>rfl)
  (case rB=>walk_at "fa";exact fun _ _ _ _ _ _ us hl=>match us,hl with | [_,_],_=>rfl)
  (case mF=>walk_at "fa";exact fun _ _ _ _ _ _ us hl=>match us,hl with | [_,_,_,_,_],_=>rfl)
  (case jO=>walk_at "fi";exact fun _ _ _ _ _ _ us hl=>match us,hl with | [_,_],_=>rfl)
  (case rC=>walk_at "fm";exact fun _ _ _ _ _ _ us hl=>match us,hl with | [_,_,_],_=>rfl)
  (case zU=>walk_at "fa";exact fun _ _ _ _ _ _ us hl=>match us,hl with | [_,_],_=>rfl)
  (case rD=>walk_at "fa";exact fun _ _ _ _ _ _ us hl=>match us,hl with | [_,_],_=>rfl)
  (case oR=>walk_at "fm";exact fun _ _ _ _ _ _ us hl=>match us,hl with | [_],_=>rfl)
  (case jP=>walk_at "fa";exact fun _ _ _ _ _ _ us hl=>match us,hl with | [_,_],_=>rfl)
  (case rE=>walk_at "fm";exact fun _ _ _ _ _ _ us hl=>match us,hl with | [_,_,_,_],_=>rfl)
  (case iI=>walk_at "fm";exact fun _ _ _ _ _ _ us hl=>match us,hl with | [_,_],_=>rfl)
  (case rF=>walk_at "fm";exact fun _ _ _ _ _ _ us hl=>match us,hl with | [_,_],_=>rfl)
  (case oU=>walk_at "fa";exact fun _ _ _ _ _ _ us hl=>match us,hl with | [_,_,_,_,_],_=>rfl)
  (case uI=>walk_at "fa";exact fun _ _ _ _ _ _ us hl=>match us,hl with | [_,_],_=>rfl)
  (case jc=>walk_at "fi";exact fun _ _ _ _ _ _ us hl=>match us,hl with | [_],_=>rfl)
  (case W8=>k_is)
  (case W9=>k_is)
  (case Nz=>k_is)
  (case NK=>k_is)
end
