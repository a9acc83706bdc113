import PyProof.Rows.All
import Wide.All
import OpenK.AllK
import Wide.FinOn
import Lean
import PyProof.EqAt
import PyProof.EqKinds
import PyProof.TupleCall
import PyProof.ExcArgsOwn
import PyProof.ExcAttrAll.ValueError
import PyProof.EnumMake
import PyProof.EnumFor
import PyProof.NeKinds
import PyProof.DictValues
import KE.KDictList
import PyProof.Rows.SortShellK
import PyProof.MeetsSeq3
import PyProof.FactsAll.list_2
import KE.KSortAsk
import KE.KDictSum
import PyProof.Rows.SetFrom
import PySem.Challenge.RW_figurefall_k24_copies
set_option Elab.async false
set_option linter.all false
set_option maxRecDepth 100000
set_option compiler.extract_closed false
noncomputable section
namespace L2
open PySem PySem.Spec PyProof.Rows
abbrev Key:=Sum Int Str
def keyIs:Key→Value→Bool
 | .inl k,v=>Value.isInt k v
 | .inr x,v=>Value.isStrOf x v
def keyH (w:World):Key→Int
 | .inl k=>hashInt k
 | .inr x=>hashStr w x
theorem keyIs_shape:∀ {k:Key} {v:Value},keyIs k v=true→(∃ i t,k=Sum.inl i∧v=Value.int i t)∨(∃ x t,k=Sum.inr x∧v=Value.str x t)
 | .inl i,v,h=>by
  obtain ⟨t,e⟩:=Value.isInt_shape (k:=i) (v:=v) h
  exact .inl ⟨i,t,rfl,e⟩
 | .inr x,v,h=>by
  obtain ⟨t,e⟩:=Value.isStrOf_shape (x:=x) (v:=v) h
  exact .inr ⟨x,t,rfl,e⟩
theorem keyIs_int (i:Int) (t:Tok):keyIs (.inl i) (.int i t)=true:=by simp [keyIs,Value.isInt]
theorem keyIs_str (x:Str) (t:Tok):keyIs (.inr x) (.str x t)=true:=by simp [keyIs,Value.isStrOf]
theorem key_ll (a b:Int):decide ((Sum.inl a:Key)=Sum.inl b)=(a == b):=by
 by_cases e:a=b
 ·subst e;simp
 ·have h:¬ (Sum.inl a:Key)=Sum.inl b:=fun q=>e (Sum.inl.inj q)
  rw [decide_eq_false h]
  exact (beq_eq_false_iff_ne.mpr e).symm
theorem key_rr (a b:Str):decide ((Sum.inr a:Key)=Sum.inr b)=decide (a=b):=by
 by_cases e:a=b
 ·subst e;simp
 ·have h:¬ (Sum.inr a:Key)=Sum.inr b:=fun q=>e (Sum.inr.inj q)
  rw [decide_eq_false h,decide_eq_false e]
theorem key_lr (a:Int) (b:Str):decide ((Sum.inl a:Key)=Sum.inr b)=false:=decide_eq_false (fun q=>nomatch q)
theorem key_rl (a:Str) (b:Int):decide ((Sum.inr a:Key)=Sum.inl b)=false:=decide_eq_false (fun q=>nomatch q)
def mixKind (prog:Program) (w:World):PySem.KeyKind prog w Key where
 is:=keyIs
 hash:=keyH w
 inj:=fun v a b ha hb=>by
  rcases keyIs_shape ha with ⟨i,t,rfl,rfl⟩ | ⟨x,t,rfl,rfl⟩
  ·rcases keyIs_shape hb with ⟨j,u,rfl,e⟩ | ⟨y,u,rfl,e⟩
   ·injection e with e1 _;rw [e1]
   ·exact nomatch e
  ·rcases keyIs_shape hb with ⟨j,u,rfl,e⟩ | ⟨y,u,rfl,e⟩
   ·exact nomatch e
   ·injection e with e1 _;rw [e1]
 byValue:=fun k v h=>by
  rcases keyIs_shape h with ⟨i,t,rfl,rfl⟩ | ⟨x,t,rfl,rfl⟩ <;> rfl
 pyHash:=fun hv h=>by
  rcases keyIs_shape hv with ⟨i,t,rfl,rfl⟩ | ⟨x,t,rfl,rfl⟩
  ·exact wpAny_pyHash_int h
  ·exact wpAny_pyHash_str h
 eqBool:=fun hu hv h=>by
  rcases keyIs_shape hu with ⟨i,t,rfl,rfl⟩ | ⟨x,t,rfl,rfl⟩
  ·rcases keyIs_shape hv with ⟨j,u,rfl,rfl⟩ | ⟨y,u,rfl,rfl⟩
   ·rw [key_ll] at h;exact wpAny_eqBool_int h
   ·rw [key_lr] at h;exact SeqAt.EqAt.int_str i t y u _ _ _ _ h
  ·rcases keyIs_shape hv with ⟨j,u,rfl,rfl⟩ | ⟨y,u,rfl,rfl⟩
   ·rw [key_rl] at h;exact SeqAt.EqAt.str_int x t j u _ _ _ _ h
   ·rw [key_rr] at h;exact wpAny_eqBool_str h
 «strs»:=fun k x t v h=>by
  rcases keyIs_shape h with ⟨i,u,rfl,e⟩ | ⟨y,u,rfl,e⟩
  ·exact nomatch e
  ·injection e with e1 _
   subst e1
   cases v <;> rfl
theorem mixKind_int (prog:Program) (w:World) (i:Int) (t:Tok):(mixKind prog w).is (.inl i) (.int i t)=true:=keyIs_int i t
theorem mixKind_str (prog:Program) (w:World) (x:Str) (t:Tok):(mixKind prog w).is (.inr x) (.str x t)=true:=keyIs_str x t
end L2
namespace L2
open PySem PySem.Spec PyProof.Rows
inductive V where
 | non | bl (b:Bool) | int (i:Int) | str (x:Str) | byt (b:Array UInt8) | flt (b:UInt64) | ref (a:Addr) | ty (n:String)
 deriving DecidableEq
def RelV:V→Value→Prop
 | .non,u=>u=Value.none
 | .bl b,u=>u=Value.bool b
 | .int i,u=>∃ t,u=Value.int i t
 | .str x,u=>∃ t,u=Value.str x t
 | .byt b,u=>∃ t,u=Value.bytes b t
 | .flt b,u=>∃ t,u=Value.float b t
 | .ref a,u=>u=Value.ref a
 | .ty n,u=>u=Value.type n
abbrev Vals:List V→List Value→Prop:=Paired RelV
theorem Vals.length {xs:List V} {us:List Value} (r:Vals xs us):xs.length=us.length:=Paired.length r
theorem Vals.get:∀ {xs:List V} {us:List Value} {i:Nat} {x:V},Vals xs us→xs[i]? = some x→∃ u,us[i]? = some u∧RelV x u
 | _,_,_,_,.nil,e=>by simp at e
 | _,_,0,_,.cons r _,e=>by simp at e;subst e;exact ⟨_,rfl,r⟩
 | _,_,i+1,x,.cons _ t,e=>by
  obtain ⟨u,h1,h2⟩:=Vals.get (i:=i) (x:=x) t (by simpa using e)
  exact ⟨u,by simpa using h1,h2⟩
theorem Vals.set {x:V} {u:Value} (r:RelV x u):∀ {xs:List V} {us:List Value} (i:Nat),Vals xs us→Vals (xs.set i x) (us.set i u)
 | _,_,_,.nil=>.nil
 | _,_,0,.cons _ t=>.cons r t
 | _,_,i+1,.cons q t=>.cons q (Vals.set r i t)
theorem Vals.append:∀ {xs ys:List V} {us ws:List Value},Vals xs us→Vals ys ws→Vals (xs++ys) (us++ws)
 | _,_,_,_,.nil,s=>s
 | _,_,_,_,.cons r t,s=>.cons r (Vals.append t s)
theorem Vals.take:∀ {xs:List V} {us:List Value} (n:Nat),Vals xs us→Vals (xs.take n) (us.take n)
 | _,_,0,_=>.nil
 | _,_,_+1,.nil=>.nil
 | _,_,n+1,.cons r t=>.cons r (Vals.take n t)
theorem Vals.drop:∀ {xs:List V} {us:List Value} (n:Nat),Vals xs us→Vals (xs.drop n) (us.drop n)
 | _,_,0,r=>r
 | _,_,_+1,.nil=>.nil
 | _,_,n+1,.cons _ t=>Vals.drop n t
def RelO:Option V→Option Value→Prop
 | some v,some u=>RelV v u
 | none,none=>True
 | _,_=>False
def KV {κ:Type}:List (κ×V)→List (κ×Value)→Prop:=Paired fun (p:κ×V) (q:κ×Value)=>p.1=q.1∧RelV p.2 q.2
def kV:Key→V
 | .inl i=>.int i
 | .inr x=>.str x
inductive HO where
  | lst (xs:List V)
  | tup (xs:List V)
  | dK (kvs:List (Key×V)) | dT (kvs:List (List Key×V))
  | set (S:Int→Bool) (n:Nat)
  | ins (C dx:Addr) (fs:List (Str×V))
  | own (x:Addr)
  | xd (fs:List (Str×V))
  | met (f x:Addr)
  | rng (lo hi:Int)
  | frz (o:Obj) (u:HO)
  | tbl (ps:Array Value)
  | ext (φ:Heap→Prop)
abbrev Hp:=Addr→Option HO
def upd (H:Hp) (a:Addr) (o:HO):Hp:=fun b=>if b=a then some o else H b
theorem upd_same {H:Hp} {a:Addr} {o:HO}:upd H a o a=some o:=by unfold upd;rw [if_pos rfl]
theorem upd_ne {H:Hp} {a b:Addr} {o:HO} (h:b≠a):upd H a o b=H b:=by unfold upd;rw [if_neg h]
theorem ne_of {H:Hp} {a b:Addr} {o u:HO} (h:H a=some o) (h':H b=some u) (d:o≠u):a≠b:=by
 intro e;subst e;rw [h] at h';exact d (Option.some.inj h')
theorem ne_of_none {H:Hp} {a b:Addr} {o:HO} (h:H a=some o) (h':H b=none):a≠b:=by
 intro e;subst e;rw [h] at h';cases h'
section
variable (P:Program) (w:World)
def ObjOk (H:Hp) (h:Heap) (a:Addr):HO→Prop
 | .lst xs=>xs.length≤sizeLine∧∃ (its:List Value) (n:Nat),Vals xs its∧h.get? a=some { cls:=.type "list",data:=.seq its.toArray n }
 | .tup xs=>xs.length≤sizeLine∧∃ its:List Value,Vals xs its∧IsTup h a its.toArray
 | .dK kvs=>kvs.length≤sizeLine∧(a == sysModules)=false∧∃ vs,KV kvs vs∧h.DictOf (mixKind P w) a vs
 | .dT kvs=>kvs.length≤sizeLine∧(a == sysModules)=false∧∃ xs:List (List Key×Addr×Value),
   Paired (fun (p:List Key×V) (q:List Key×Addr×Value)=>p.1=q.1∧H q.2.1=some (.tup (p.1.map kV))∧RelV p.2 q.2.2) kvs xs ∧
   ∃ o es ep,h.get? a=some o∧o.ExactDict∧o.data=.dict es ep∧es.toList=xs.map (entryOfKey (tupleKind (mixKind P w)))∧(xs.map (·.1)).Nodup
 | .set S n=>h.SetOf (intKind P w) a S n
 | .ins C dx fs=>H dx=some (.own a)∧fs.length≤1000∧dx≠a∧h.get? a=some (PySem.W.instObj C dx) ∧
   ∃ mA,h.Ns1 dx mA∧(∀ f,RelO (fs.lookup f) (mA f))∧PySem.Within mA (fs.map (·.1))
 | .own _=>∃ o,h.get? a=some o
 | .xd fs=>∃ mA,h.Ns1 a mA∧∀ f,RelO (fs.lookup f) (mA f)
 | .rng lo hi=>∃ t u v,h.get? a=some { cls:=.type "range",data:=.fields #[.int lo t,.int hi u,.int 1 v] }
 | .frz o u=>h.get? a=some o∧ObjOk H h a u
 | .tbl ps=>h.get? a=some { cls:=.none,data:=.fields ps }
 | .met f x=>h.get? a=some (PySem.W.methodObj (.ref f) (.ref x))
 | .ext φ=>φ h∧(∃ o,h.get? a=some o)∧∀ h1 h2:Heap,φ h1→(∀ o,h1.get? a=some o→h2.get? a=some o)→φ h2
def HOk (H:Hp) (h:Heap):Prop:=∀ a o,H a=some o→ObjOk P w H h a o
end
section
variable {P:Program} {w:World} {H H':Hp} {h h':Heap} {a:Addr} {o:HO}
theorem ObjOk.lt (x:ObjOk P w H h a o):a<h.objs.size:=by
 cases o with
 | lst xs=>obtain ⟨_,_,_,_,e⟩:=x;exact Heap.lt_size e
 | tup xs=>obtain ⟨_,_,_,p⟩:=x;exact p.lt
 | dK kvs=>obtain ⟨_,_,_,_,o,_,_,e,_⟩:=x;exact Heap.lt_size e
 | dT kvs=>obtain ⟨_,_,_,_,o,_,_,e,_⟩:=x;exact Heap.lt_size e
 | set S n=>obtain ⟨o,_,_,_,e,_⟩:=x;exact Heap.lt_size e
 | ins C dx fs=>obtain ⟨_,_,_,e,_⟩:=x;exact Heap.lt_size e
 | own y=>obtain ⟨_,e⟩:=x;exact Heap.lt_size e
 | xd fs=>obtain ⟨_,⟨_,_,_,e,_⟩,_⟩:=x;exact Heap.lt_size e
 | rng lo hi=>obtain ⟨_,_,_,e⟩:=x;exact Heap.lt_size e
 | frz ob u=>obtain ⟨e,_⟩:=x;exact Heap.lt_size e
 | tbl ps=>exact Heap.lt_size (show h.get? a=some _ from x)
 | met f y=>exact Heap.lt_size (show h.get? a=some _ from x)
 | ext φ=>obtain ⟨_,⟨_,e⟩,_⟩:=x;exact Heap.lt_size e
theorem Paired.mapP {α β:Type} {F G:α→β→Prop}:∀ {l₁:List α} {l₂:List β},Paired F l₁ l₂→(∀ a b,F a b→G a b)→Paired G l₁ l₂
 | _,_,.nil,_=>.nil
 | _,_,.cons r t,f=>.cons (f _ _ r) (Paired.mapP t f)
theorem ObjOk.stay (x:ObjOk P w H h a o) (k:∀ b u,(b=a∨H b=some (.own a))→h.get? b=some u→h'.get? b=some u)
  (ho:∀ b,H b=some (.own a)→H' b=some (.own a)) (ht:∀ b xs,H b=some (.tup xs)→H' b=some (.tup xs)):ObjOk P w H' h' a o:=by
 induction o with
 | lst xs=>obtain ⟨z,its,n,r,e⟩:=x;exact ⟨z,its,n,r,k _ _ (.inl rfl) e⟩
 | tup xs=>obtain ⟨z,its,r,ob,e,c⟩:=x;exact ⟨z,its,r,ob,k _ _ (.inl rfl) e,c⟩
 | dK kvs=>obtain ⟨z,y,vs,r,ob,es,ep,e,c⟩:=x;exact ⟨z,y,vs,r,ob,es,ep,k _ _ (.inl rfl) e,c⟩
 | dT kvs =>
  obtain ⟨z,y,xs,r,ob,es,ep,e,c⟩:=x
  exact ⟨z,y,xs,Paired.mapP r fun p q z=>⟨z.1,ht _ _ z.2.1,z.2.2⟩,ob,es,ep,k _ _ (.inl rfl) e,c⟩
 | set S n=>obtain ⟨ob,es,ep,t,e,c⟩:=x;exact ⟨ob,es,ep,t,k _ _ (.inl rfl) e,c⟩
 | ins C dx fs =>
  obtain ⟨d,z,ne,e,mA,⟨od,es,ep,e2,c⟩,r⟩:=x
  exact ⟨ho _ d,z,ne,k _ _ (.inl rfl) e,mA,⟨od,es,ep,k _ _ (.inr d) e2,c⟩,r⟩
 | own y=>obtain ⟨ob,e⟩:=x;exact ⟨ob,k _ _ (.inl rfl) e⟩
 | xd fs=>obtain ⟨mA,⟨od,es,ep,e,c⟩,r⟩:=x;exact ⟨mA,⟨od,es,ep,k _ _ (.inl rfl) e,c⟩,r⟩
 | rng lo hi=>obtain ⟨t,u,v,e⟩:=x;exact ⟨t,u,v,k _ _ (.inl rfl) e⟩
 | frz ob u ih=>obtain ⟨e,q⟩:=x;exact ⟨k _ _ (.inl rfl) e,ih q⟩
 | tbl ps =>
  have e:h.get? a=some { cls:=.none,data:=.fields ps }:=x
  show h'.get? a=some { cls:=.none,data:=.fields ps }
  exact k a _ (.inl rfl) e
 | met f y =>
  have e:h.get? a=some (PySem.W.methodObj (.ref f) (.ref y)):=x
  show h'.get? a=some (PySem.W.methodObj (.ref f) (.ref y))
  exact k a _ (.inl rfl) e
 | ext φ=>obtain ⟨p,⟨o,e⟩,st⟩:=x;exact ⟨st _ _ p fun o q=>k _ _ (.inl rfl) q,⟨o,k _ _ (.inl rfl) e⟩,st⟩
theorem HOk.lt (x:HOk P w H h) (e:H a=some o):a<h.objs.size:=(x a o e).lt
theorem HOk.fresh (x:HOk P w H h) (e:h.objs.size≤a):H a=none:=by
 cases q:H a with
 | none=>rfl
 | some u=>exact absurd (Nat.lt_of_lt_of_le (x.lt q) e) (Nat.lt_irrefl _)
theorem HOk.kept (x:HOk P w H h) (k:∀ b u,h.get? b=some u→h'.get? b=some u):HOk P w H h':=fun a o e =>
 (x a o e).stay (fun b u _ q=>k b u q) (fun _ q=>q) fun _ _ q=>q
theorem HOk.laid (x:HOk P w H h) (k:∀ b u,h.get? b=some u→h'.get? b=some u) (hp:h.objs.size≤a) (new:ObjOk P w (upd H a o) h' a o):HOk P w (upd H a o) h':=fun b u e=>by
 have hn:=x.fresh hp
 by_cases hb:b=a
 ·subst hb;rw [upd_same] at e;cases e;exact new
 ·rw [upd_ne hb] at e
  exact (x b u e).stay (fun c v _ q=>k c v q) (fun c q=>by rw [upd_ne (ne_of_none q hn)];exact q) fun c xs q=>by rw [upd_ne (ne_of_none q hn)];exact q
end
def Rd (H:Hp) (a:Addr) (u:HO):Prop:=H a=some u∨∃ o,H a=some (.frz o u)
theorem Rd.ok {P:Program} {w:World} {H:Hp} {h:Heap} {a:Addr} {u:HO} (r:Rd H a u) (x:HOk P w H h):ObjOk P w H h a u:=by
 rcases r with r | ⟨o,r⟩
 ·exact x a u r
 ·obtain ⟨_,q⟩:=x a _ r
  exact q
def Mut:Option HO→Prop
 | some (.lst _)=>True
 | some (.dK _)=>True
 | some (.dT _)=>True
 | some (.set _ _)=>True
 | some (.ins _ _ _)=>True
 | some (.ext _)=>True
 | _=>False
section
variable {P:Program} {w:World} {H:Hp} {h h':Heap} {x e:Addr} {o':HO}
theorem HOk.write (ok:HOk P w H h) (mu:Mut (H x)) (he:e=x∨H e=some (.own x)) (k:∀ b u,b≠e→h.get? b=some u→h'.get? b=some u) (heo:∃ u,h'.get? e=some u)
  (new:ObjOk P w (upd H x o') h' x o'):HOk P w (upd H x o') h':=fun b u q=>by
 have nown:∀ c y,H c=some (.own y)→c≠x:=fun c y r z=>by subst z;rw [r] at mu;exact mu
 have ntup:∀ c xs,H c=some (.tup xs)→c≠x:=fun c xs r z=>by subst z;rw [r] at mu;exact mu
 by_cases hb:b=x
 ·subst hb;rw [upd_same] at q;cases q;exact new
 ·rw [upd_ne hb] at q
  by_cases hbe:b=e
  ·have q':H b=some (.own x):=by
    rcases he with z | z
    ·exact absurd (hbe.trans z) hb
    ·rw [hbe];exact z
   rw [q] at q';cases q'
   obtain ⟨v,hv⟩:=heo
   exact ⟨v,by rw [hbe];exact hv⟩
  ·refine (ok b u q).stay (fun c v hc r=>k c v ?_ r) (fun c r=>by rw [upd_ne (nown c b r)];exact r) fun c xs r=>by rw [upd_ne (ntup c xs r)];exact r
   rcases hc with rfl | hc
   ·exact hbe
   ·rintro rfl
    rcases he with z | z
    ·exact nown c b hc z
    ·rw [hc] at z;cases z;exact hb rfl
end
structure Un (fs ex:List Addr) (H H':Hp) (h h':Heap):Prop where
 keep:∀ b o,h.get? b=some o→H b=none→b ∉ fs→b ∉ ex→h'.get? b=some o
 slot:∀ b o,h.get? b=some o→H b=none→b∈fs→b ∉ ex→∃ sl,h'.get? b=some { o with slots:=sl }
 free:∀ b o,h.get? b=some o→H b=none→b ∉ ex→H' b=none
 there:∀ b o,h.get? b=some o→b ∉ ex→∃ o',h'.get? b=some o'
 tups:∀ b xs,H b=some (.tup xs)→H' b=some (.tup xs)
 frzs:∀ b o u,H b=some (.frz o u)→H' b=some (.frz o u)
 tbls:∀ b ps,H b=some (.tbl ps)→∃ more,H' b=some (.tbl (ps++more))
section
variable {fs fs' ex ex':List Addr} {H H1 H2:Hp} {h h1 h2 h':Heap} {a x e:Addr} {o:HO}
theorem Un.any (u:Un fs ex H H1 h h1) {b:Addr} {ob:Obj} (q:h.get? b=some ob) (n:H b=none) (hx:b ∉ ex):∃ sl,h1.get? b=some { ob with slots:=sl }:=by
 by_cases hb:b∈fs
 ·exact u.slot b ob q n hb hx
 ·exact ⟨ob.slots,u.keep b ob q n hb hx⟩
theorem Un.kept (k:∀ b u,h.get? b=some u→h'.get? b=some u):Un fs ex H H h h' :=
 ⟨fun b ob q _ _ _=>k b ob q,fun b ob q _ _ _=>⟨ob.slots,k b ob q⟩,fun _ _ _ n _=>n,fun b ob q _=>⟨ob,k b ob q⟩,fun _ _ q=>q,fun _ _ _ q=>q,fun _ ps q=>⟨#[],by rw [q];simp⟩⟩
theorem Un.refl:Un fs ex H H h h:=Un.kept fun _ _ q=>q
theorem Un.laid (k:∀ b u,h.get? b=some u→h'.get? b=some u) (hp:h.objs.size≤a) (hn:H a=none):Un fs ex H (upd H a o) h h' where
 keep:=fun b u q _ _ _=>k b u q
 slot:=fun b u q _ _ _=>⟨u.slots,k b u q⟩
 free:=fun b u q n _=>by rw [upd_ne (Nat.ne_of_lt (Nat.lt_of_lt_of_le (Heap.lt_size q) hp))];exact n
 there:=fun b u q _=>⟨u,k b u q⟩
 tups:=fun b xs q=>by rw [upd_ne (ne_of_none q hn)];exact q
 frzs:=fun b u xs q=>by rw [upd_ne (ne_of_none q hn)];exact q
 tbls:=fun b ps q=>⟨#[],by rw [upd_ne (ne_of_none q hn),q];simp⟩
theorem Un.write (mu:Mut (H x)) (he:e=x∨H e=some (.own x)) (k:∀ b u,b≠e→h.get? b=some u→h'.get? b=some u) (heo:∃ u,h'.get? e=some u):Un fs ex H (upd H x o) h h':=by
 have hx:∀ b,H b=none→b≠x:=fun b n z=>by subst z;rw [n] at mu;exact mu
 have hb:∀ b,H b=none→b≠e:=fun b n z=>by
  subst z
  rcases he with r | r
  ·exact hx b n r
  ·rw [n] at r;cases r
 have hm:∀ b u,H b=some u→¬ Mut (some u)→b≠x:=fun b u q nm z=>by subst z;rw [q] at mu;exact nm mu
 refine ⟨fun b u q n _ _=>k b u (hb b n) q,fun b u q n _ _=>⟨u.slots,k b u (hb b n) q⟩,fun b u q n _=>by rw [upd_ne (hx b n)];exact n,fun b u q _=>?_,
  fun b xs q=>by rw [upd_ne (hm b _ q fun z=>z)];exact q,fun b u xs q=>by rw [upd_ne (hm b _ q fun z=>z)];exact q,fun b ps q=>⟨#[],by rw [upd_ne (hm b _ q fun z=>z),q];simp⟩⟩
 by_cases hbe:b=e
 ·subst hbe;exact heo
 ·exact ⟨u,k b u hbe q⟩
end
def trk (h:Heap) (H:Hp):List Addr:=(List.range h.objs.size).filter fun a=>(H a).isSome
def hidT (h:Heap) (H:Hp):Heap:=PySem.W.hideAll h (trk h H)
theorem hidT_size (h:Heap) (H:Hp):(hidT h H).objs.size=h.objs.size:=PySem.W.hideAll_size _ _
theorem hidT_get {h:Heap} {H:Hp} {b:Addr} {o:Obj} (e:h.get? b=some o) (n:H b=none):(hidT h H).get? b=some o :=
 PySem.W.hideAll_get _ e fun hm=>by
  have q:(H b).isSome=true:=(List.mem_filter.mp hm).2
  rw [n] at q;simp at q
theorem of_hidT {h:Heap} {H:Hp} {b:Addr} {o:Obj} (e:(hidT h H).get? b=some o):h.get? b=some o∧H b=none:=by
 have e':h.get? b=some o:=PySem.W.of_hideAll (trk h H) e
 refine ⟨e',?_⟩
 cases q:H b with
 | none=>rfl
 | some x =>
  have hm:b∈trk h H:=List.mem_filter.mpr ⟨List.mem_range.mpr (Heap.lt_size e'),by simp [q]⟩
  have z:(hidT h H).get? b=none:=PySem.W.hideAll_none (trk h H) hm
  rw [z] at e;cases e
def allNews (g h:Heap) (L:Addr):List (Addr×Obj):=(List.range h.objs.size).filterMap fun a=>if a=L∨(g.get? a).isSome=true then none else (h.get? a).map fun o=>(a,o)
def rest (g h:Heap) (L d:Addr):List (Addr×Obj):=(allNews g h L).filter fun p=>decide (p.1≠d)
end L2
namespace L2
open PySem PySem.Spec PyProof.Rows
structure Mod (K:PySem.W.Frag) (mg:Str→Option Value) (base:Heap):Prop where
 kin:K.In base
 glob:base.Ns mainGlobals mg
 blt:∃ mb,base.Ns builtinsNs mb∧∀ x:Str,x ≠ "__name__"→mb x=bootBuiltins x
 nolimit:base.NoLimit
structure Cx where
 prog:Program
 w:World
 K:PySem.W.Frag
 mg:Str→Option Value
 base:Heap
 A:Around
 N:List Str
 s₀:Shared
 H₀:Hp
 env:Env
 outer:List Env
 stack:List Env
 ex:List Addr
 fn:Str→Bool
 calm:Bool
 pn:List (Addr×Obj)
 xe:Value→Shared→Prop
def frs (l:List Env):List Addr:=l.filterMap (·.frame)
abbrev Cx.fs (X:Cx):List Addr:=frs X.outer
def Vis (sc:Scope) (x:Str):Prop:=sc.names.lookup x=some .local∨sc.names.lookup x=some .cell∨sc.names.lookup x=some .free
def Loc (sc:Scope) (x:Str):Prop:=sc.names.lookup x=some .local∨sc.names.lookup x=some .cell
def Look (env:Env) (h:Heap) (m:Str→Option Value) (x:Str) (u:Value):Prop :=
 (env.kindOf x=some .local∧m x=some u)∨((env.kindOf x=some .cell∨env.kindOf x=some .free)∧∃ c,env.cells.lookup x=some c∧h.IsCell c (some u))
structure Cx.Ok (X:Cx):Prop where
 mod:Mod X.K X.mg X.base
 kind:X.env.scope.kind=.function
 glob:X.env.globals=mainGlobals
 blt:X.env.builtins=builtinsNs
 above:X.s₀.heap.objs.size≤X.env.locals
 inj:∀ x y c,X.env.cells.lookup x=some c→X.env.cells.lookup y=some c→x=y
 has:∀ x,(X.env.kindOf x=some .cell∨X.env.kindOf x=some .free)→∃ c,X.env.cells.lookup x=some c
 cab:∀ x c,X.fn x=true→X.env.cells.lookup x=some c→X.s₀.heap.objs.size≤c
 hd:X.calm=true→X.A.handled=none
 frames:X.A.frames=some X.stack
 stk:X.stack=X.outer∨(X.stack=X.env::X.outer∧X.env.frame=some X.env.locals)
 exf:∀ b∈X.ex,b≠X.env.locals∧∀ x c,X.env.cells.lookup x=some c→c≠b
 bs:∀ b o,X.base.get? b=some o→X.s₀.heap.get? b=some o∧X.H₀ b=none
 bsz:X.base.objs.size≤X.s₀.heap.objs.size
 noex:∀ b o,X.base.get? b=some o→b ∉ X.ex
 exfs:∀ b∈X.ex,b ∉ X.fs
 funs:X.s₀.heap.FunFrames X.base X.outer
 frf:∀ b∈X.fs,X.H₀ b=none
structure Inv (X:Cx) (pins:List (Addr×Obj)) (σ:List (Option V)) (H:Hp) (s:Shared):Prop where
 ok:X.Ok
 os:s.os=X.s₀.os
 bare:AllBare s.gens
 base:Un X.fs X.ex X.H₀ H X.s₀.heap s.heap
 loc:∃ m,s.heap.Ns X.env.locals m∧∀ (i:Nat) (x:Str) (v:V),X.N[i]? = some x→σ[i]? = some (some v)→Vis X.env.scope x→∃ u,RelV v u∧Look X.env s.heap m x u
 cell:∀ x c,X.env.cells.lookup x=some c→∃ v,s.heap.IsCell c v
 free:H X.env.locals=none
 freeC:∀ x c,X.env.cells.lookup x=some c→H c=none
 pin:∀ p∈X.pn++pins,s.heap.get? p.1=some p.2∧H p.1=none∧p.1≠X.env.locals∧p.1 ∉ X.fs∧∀ v,p.2.data≠.cell v
 hok:HOk X.prog X.w H s.heap
 len:σ.length=X.N.length
section
variable {X:Cx} {pins:List (Addr×Obj)} {σ:List (Option V)} {H H':Hp} {s:Shared} {h':Heap}
theorem Cx.Ok.nofr (ok:X.Ok) {b:Addr} {o:Obj} (e:X.base.get? b=some o):b ∉ X.fs:=fun hb=>by
 have:=(ok.funs.mem hb).1
 rw [e] at this;cases this
theorem Inv.bs (I:Inv X pins σ H s):∀ b o,X.base.get? b=some o→s.heap.get? b=some o∧H b=none:=fun b o e =>
 ⟨I.base.keep b o (I.ok.bs b o e).1 (I.ok.bs b o e).2 (I.ok.nofr e) (I.ok.noex b o e),I.base.free b o (I.ok.bs b o e).1 (I.ok.bs b o e).2 (I.ok.noex b o e)⟩
theorem Inv.bk (I:Inv X pins σ H s):∀ b o,X.base.get? b=some o→s.heap.get? b=some o:=fun b o e=>(I.bs b o e).1
theorem Inv.mod (I:Inv X pins σ H s):Mod X.K X.mg X.base:=I.ok.mod
theorem Inv.kIn (I:Inv X pins σ H s):X.K.In s.heap:=I.ok.mod.kin.keeps I.bk
theorem Inv.lt (I:Inv X pins σ H s):X.env.locals<s.heap.objs.size:=let ⟨_,hn,_⟩:=I.loc;hn.lt
theorem Inv.sz (I:Inv X pins σ H s):X.s₀.heap.objs.size≤s.heap.objs.size:=Nat.le_trans I.ok.above (Nat.le_of_lt I.lt)
theorem Inv.nofs (I:Inv X pins σ H s) {a:Addr} (h:s.heap.objs.size≤a):a ∉ X.fs:=fun hb=>by
 obtain ⟨_,o,ho,_⟩:=I.ok.funs.mem hb
 exact absurd (Nat.lt_of_lt_of_le (Heap.lt_size ho) (Nat.le_trans I.sz h)) (Nat.lt_irrefl _)
theorem Inv.cne (I:Inv X pins σ H s):∀ x c,X.env.cells.lookup x=some c→c≠X.env.locals:=fun x c e z=>by
 obtain ⟨v,o,ho,hd⟩:=I.cell x c e
 obtain ⟨m,⟨o',es,ep,ho',hd',_⟩,_⟩:=I.loc
 rw [z,ho'] at ho;cases ho;rw [hd'] at hd;cases hd
theorem Inv.funs (I:Inv X pins σ H s):s.heap.FunFrames X.base X.outer:=by
 have all:∀ (l:List Env),(∀ b∈frs l,b∈X.fs)→X.s₀.heap.FunFrames X.base l→s.heap.FunFrames X.base l:=by
  intro l
  induction l with
  | nil=>intro _ _;trivial
  | cons env r ih =>
   intro hs hl
   obtain ⟨hk,⟨L,o,hf,hn,ho,hd⟩,hr⟩:=hl
   have hL:L∈X.fs:=hs L (by unfold frs;rw [List.filterMap_cons,hf];exact List.mem_cons_self)
   obtain ⟨sl,e⟩:=I.base.slot L o ho (I.ok.frf L hL) hL fun z=>I.ok.exfs L z hL
   exact ⟨hk,⟨L,_,hf,hn,e,hd⟩,ih (fun b hb=>hs b (by unfold frs;rw [List.filterMap_cons,hf];exact List.mem_cons_of_mem _ hb)) hr⟩
 exact all X.outer (fun _ hb=>hb) I.ok.funs
theorem Inv.stack (I:Inv X pins σ H s):s.heap.FunFrames X.base X.stack:=by
 rcases I.ok.stk with e | ⟨e,hf⟩
 ·rw [e];exact I.funs
 ·rw [e]
  obtain ⟨m,hn,_⟩:=I.loc
  refine .cons (by rw [I.ok.kind];decide) hf hn ?_ I.funs
  exact Heap.get?_none_of_le (Nat.le_trans I.ok.bsz I.ok.above)
theorem Inv.stkSub (I:Inv X pins σ H s):∀ b∈frs X.stack,b∈X.env.locals::X.fs:=fun b hb=>by
 rcases I.ok.stk with e | ⟨e,hf⟩
 ·rw [e] at hb;exact List.mem_cons_of_mem _ hb
 ·rw [e] at hb
  unfold frs at hb
  rw [List.filterMap_cons,hf] at hb
  exact hb
theorem Inv.stkFree (I:Inv X pins σ H s):∀ b∈frs X.stack,H b=none:=fun b hb=>by
 rcases List.mem_cons.mp (I.stkSub b hb) with e | hb
 ·rw [e];exact I.free
 ·obtain ⟨_,o,ho,_⟩:=I.ok.funs.mem hb
  exact I.base.free b o ho (I.ok.frf b hb) fun z=>I.ok.exfs b z hb
theorem Inv.step {g':Array GenState} {t':Nat} {d':Drawn} {ch:List Addr} (I:Inv X pins σ H s)
  (hch:∀ b∈ch,(b∈X.ex∨X.s₀.heap.objs.size≤b)∧b≠X.env.locals∧(∀ x c,X.env.cells.lookup x=some c→c≠b)∧∀ p∈X.pn++pins,p.1≠b)
  (keep:∀ b o,b≠X.env.locals→b ∉ X.fs→b ∉ ch→s.heap.get? b=some o→H b=none→h'.get? b=some o)
  (slot:∀ b o,b≠X.env.locals→b∈X.fs→b ∉ ch→s.heap.get? b=some o→H b=none→∃ sl,h'.get? b=some { o with slots:=sl }) (free:∀ b o,b ∉ ch→s.heap.get? b=some o→H b=none→H' b=none)
  (there:∀ b o,b ∉ ch→s.heap.get? b=some o→∃ o',h'.get? b=some o')
  (tups:∀ b xs,H b=some (.tup xs)→H' b=some (.tup xs)) (frzs:∀ b o u,H b=some (.frz o u)→H' b=some (.frz o u)) (tbls:∀ b ps,H b=some (.tbl ps)→∃ more,H' b=some (.tbl (ps++more)))
  (ns:∀ m,s.heap.Ns X.env.locals m→h'.Ns X.env.locals m) (hok:HOk X.prog X.w H' h') (hg:AllBare g') :
  Inv X pins σ H' { s with heap:=h',gens:=g',drawn:=d',toks:=t' }:=by
 have neL:∀ b o,X.s₀.heap.get? b=some o→b≠X.env.locals:=fun b o e=>Nat.ne_of_lt (Nat.lt_of_lt_of_le (Heap.lt_size e) I.ok.above)
 have neC:∀ b o,X.s₀.heap.get? b=some o→b ∉ X.ex→b ∉ ch:=fun b o e hx hb=>by
  rcases (hch b hb).1 with z | z
  ·exact hx z
  ·exact absurd (Nat.lt_of_lt_of_le (Heap.lt_size e) z) (Nat.lt_irrefl _)
 have cellK:∀ x c,X.env.cells.lookup x=some c→∀ v,s.heap.IsCell c v→h'.IsCell c v:=fun x c e v ⟨o,ho,hd⟩=>by
  have nch:c ∉ ch:=fun z=>(hch c z).2.2.1 x c e rfl
  by_cases hc:c∈X.fs
  ·obtain ⟨sl,q⟩:=slot c o (I.cne x c e) hc nch ho (I.freeC x c e)
   exact ⟨_,q,hd⟩
  ·exact ⟨o,keep c o (I.cne x c e) hc nch ho (I.freeC x c e),hd⟩
 refine ⟨I.ok,I.os,hg,⟨fun b o e n hb hx=>?_,fun b o e n hb hx=>?_,fun b o e n hx=>?_,fun b o e hx=>?_,fun b xs e=>tups b xs (I.base.tups b xs e),fun b o xs e=>frzs b o xs (I.base.frzs b o xs e),fun b ps e=>?_⟩,?_,fun x c e=>?_,?_,fun x c e=>?_,fun p hp=>?_,hok,I.len⟩
 ·exact keep b o (neL b o e) hb (neC b o e hx) (I.base.keep b o e n hb hx) (I.base.free b o e n hx)
 ·obtain ⟨sl,e1⟩:=I.base.slot b o e n hb hx
  obtain ⟨sl',e2⟩:=slot b _ (neL b o e) hb (neC b o e hx) e1 (I.base.free b o e n hx)
  exact ⟨sl',e2⟩
 ·obtain ⟨o',e1⟩:=I.base.there b o e hx
  exact free b o' (neC b o e hx) e1 (I.base.free b o e n hx)
 ·obtain ⟨o',e1⟩:=I.base.there b o e hx
  exact there b o' (neC b o e hx) e1
 ·obtain ⟨m1,e1⟩:=I.base.tbls b ps e
  obtain ⟨m2,e2⟩:=tbls b _ e1
  exact ⟨m1++m2,by rw [e2,Array.append_assoc]⟩
 ·obtain ⟨m,hn,hl⟩:=I.loc
  refine ⟨m,ns m hn,fun i x v e1 e2 e3=>?_⟩
  obtain ⟨u,r,l⟩:=hl i x v e1 e2 e3
  refine ⟨u,r,?_⟩
  rcases l with l | ⟨k,c,e,z⟩
  ·exact .inl l
  ·exact .inr ⟨k,c,e,cellK x c e _ z⟩
 ·obtain ⟨v,z⟩:=I.cell x c e
  exact ⟨v,cellK x c e v z⟩
 ·obtain ⟨m,⟨o,_,_,ho,_⟩,_⟩:=I.loc
  exact free _ o (fun z=>(hch _ z).2.1 rfl) ho I.free
 ·obtain ⟨v,o,ho,hd⟩:=I.cell x c e
  exact free c o (fun z=>(hch c z).2.2.1 x c e rfl) ho (I.freeC x c e)
 ·obtain ⟨e,n,ne,nf,d⟩:=I.pin p hp
  have nch:p.1 ∉ ch:=fun z=>(hch p.1 z).2.2.2 p hp rfl
  exact ⟨keep p.1 p.2 ne nf nch e n,free p.1 p.2 nch e n,ne,nf,d⟩
theorem Inv.un {t':Nat} (I:Inv X pins σ H s) (u:Un X.fs [] H H' s.heap h') (hok:HOk X.prog X.w H' h'):Inv X pins σ H' { s with heap:=h',toks:=t' }:=by
 obtain ⟨m,⟨o,es,ep,ho,r⟩,_⟩:=id I.loc
 obtain ⟨sl,hL⟩:=u.any ho I.free (by simp)
 exact I.step (g':=s.gens) (d':=s.drawn) (ch:=[]) (fun _ z=>nomatch z) (fun b o _ hb _ e n=>u.keep b o e n hb (by simp)) (fun b o _ hb _ e n=>u.slot b o e n hb (by simp)) (fun b o _ e n=>u.free b o e n (by simp)) (fun b o _ e=>u.there b o e (by simp)) u.tups u.frzs u.tbls (fun m' hm=>by
  obtain ⟨o',es',ep',ho',r'⟩:=hm
  rw [ho] at ho';cases ho'
  exact ⟨_,es',ep',hL,r'⟩) hok I.bare
theorem Inv.call {g':Array GenState} {t':Nat} {d':Drawn} {ch:List Addr} (I:Inv X pins σ H s) (u:Un (frs X.stack) ch H H' s.heap h') (hok:HOk X.prog X.w H' h') (hg:AllBare g')
  (hch:∀ b∈ch,(b∈X.ex∨X.s₀.heap.objs.size≤b)∧b≠X.env.locals∧(∀ x c,X.env.cells.lookup x=some c→c≠b)∧∀ p∈X.pn++pins,p.1≠b) :
  Inv X pins σ H' { s with heap:=h',gens:=g',drawn:=d',toks:=t' }:=by
 obtain ⟨m,⟨o,es,ep,ho,r⟩,_⟩:=id I.loc
 obtain ⟨sl,hL⟩:=u.any ho I.free fun z=>(hch _ z).2.1 rfl
 exact I.step (ch:=ch) hch (fun b o hL hb hc e n=>u.keep b o e n (fun z=>(List.mem_cons.mp (I.stkSub b z)).elim hL hb) hc) (fun b o _ _ hc e n=>u.any e n hc) (fun b o hc e n=>u.free b o e n hc) (fun b o hc e=>u.there b o e hc) u.tups u.frzs u.tbls (fun m' hm=>by
  obtain ⟨o',es',ep',ho',r'⟩:=hm
  rw [ho] at ho';cases ho'
  exact ⟨_,es',ep',hL,r'⟩) hok hg
theorem Inv.turned {t':Nat} {it:Addr} (I:Inv X pins σ H s) (k:∀ b o,b≠it→s.heap.get? b=some o→h'.get? b=some o) (hn:H it=none) (hL:it≠X.env.locals)
  (h1:it∈X.ex∨X.s₀.heap.objs.size≤it) (h2:∀ x c,X.env.cells.lookup x=some c→c≠it) (h3:∀ p∈X.pn++pins,p.1≠it):Inv X pins σ H { s with heap:=h',toks:=t' }:=by
 have nit:∀ b u,H b=some u→b≠it:=fun b u e z=>by rw [z,hn] at e;cases e
 refine I.step (g':=s.gens) (d':=s.drawn) (ch:=[it]) (fun b hb=>?_) (fun b o _ _ hc e _=>k b o (fun z=>hc (by simp [z])) e) (fun b o _ _ hc e _=>⟨o.slots,k b o (fun z=>hc (by simp [z])) e⟩) (fun _ _ _ _ n=>n)
  (fun b o hc e=>⟨o,k b o (fun z=>hc (by simp [z])) e⟩) (fun _ _ e=>e) (fun _ _ _ e=>e) (fun b ps e=>⟨#[],by rw [e];simp⟩) (fun m hm=>?_) (fun b u e=>?_) I.bare
 ·have e:b=it:=by simpa using hb
  subst e
  exact ⟨h1,hL,h2,h3⟩
 ·obtain ⟨o,es,ep,ho,r⟩:=hm
  exact ⟨o,es,ep,k _ o (Ne.symm hL) ho,r⟩
 ·refine (I.hok b u e).stay (fun c v hc q=>k c v ?_ q) (fun _ q=>q) fun _ _ q=>q
  rcases hc with z | z
  ·rw [z];exact nit b u e
  ·exact nit c _ z
theorem Inv.tok (I:Inv X pins σ H s) (t:Nat):Inv X pins σ H { s with toks:=t }:=I.un (h':=s.heap) (t':=t) Un.refl I.hok
theorem Inv.kept {t':Nat} (I:Inv X pins σ H s) (k:∀ b u,s.heap.get? b=some u→h'.get? b=some u):Inv X pins σ H { s with heap:=h',toks:=t' }:=I.un (Un.kept k) (I.hok.kept k)
theorem Inv.laid {a:Addr} {o:HO} {t':Nat} (I:Inv X pins σ H s) (k:∀ b u,s.heap.get? b=some u→h'.get? b=some u) (hp:s.heap.objs.size≤a) (new:ObjOk X.prog X.w (upd H a o) h' a o) :
  Inv X pins σ (upd H a o) { s with heap:=h',toks:=t' }:=I.un (Un.laid k hp (I.hok.fresh hp)) (I.hok.laid k hp new)
theorem Inv.write {x e:Addr} {o:HO} {t':Nat} (I:Inv X pins σ H s) (mu:Mut (H x)) (he:e=x∨H e=some (.own x)) (k:∀ b u,b≠e→s.heap.get? b=some u→h'.get? b=some u) (heo:∃ u,h'.get? e=some u)
  (new:ObjOk X.prog X.w (upd H x o) h' x o):Inv X pins σ (upd H x o) { s with heap:=h',toks:=t' }:=I.un (Un.write mu he k heo) (I.hok.write mu he k heo new)
theorem Inv.pins_of {pins':List (Addr×Obj)} (I:Inv X pins σ H s) (h:∀ p∈pins',s.heap.get? p.1=some p.2∧H p.1=none∧p.1≠X.env.locals∧p.1 ∉ X.fs∧∀ v,p.2.data≠.cell v):Inv X pins' σ H s :=
 ⟨I.ok,I.os,I.bare,I.base,I.loc,I.cell,I.free,I.freeC,fun p hp=>(List.mem_append.mp hp).elim (fun z=>I.pin p (List.mem_append_left _ z)) (h p),I.hok,I.len⟩
theorem nodup_ix {N:List Str} (hN:N.Nodup) {i j:Nat} {x:Str} (a:N[i]? = some x) (b:N[j]? = some x):i=j:=by
 obtain ⟨h1,e1⟩:=List.getElem?_eq_some_iff.mp a
 obtain ⟨h2,e2⟩:=List.getElem?_eq_some_iff.mp b
 exact (List.getElem_inj hN).mp (e1.trans e2.symm)
theorem store_ok2 {M:Model} {A:Around} {E:Value→Shared→Prop} {i:Nat} {x:Str} {v:V} {u:Value} {Q:Unit→Shared→Prop} (I:Inv X pins σ H s) (hN:X.N.Nodup) (hi:X.N[i]? = some x) (hx:Loc X.env.scope x) (r:RelV v u)
  (h:∀ s',Inv X pins (σ.set i (some v)) H s'→(∃ a,Heap.SameBut a s.heap s'.heap∧(a=X.env.locals∨X.env.cells.lookup x=some a))→Q () s') (hf:X.fn x=true∨X.env.scope.names.lookup x=some .local:=by first | exact .inl rfl | exact .inr rfl | assumption):wpAny M A (storeName X.env x u) Q E s:=by
 obtain ⟨m,hn,hl⟩:=id I.loc
 have hcls:(X.env.scope.kind == .class || (X.env.scope.kind == .module && X.env.locals != X.env.globals))=false:=by rw [I.ok.kind];rfl
 have hiσ:i<σ.length:=by rw [I.len];exact (List.getElem?_eq_some_iff.mp hi).1
 have cne:=I.cne
 have tracked:∀ {a:Addr} {h':Heap},(∃ o,s.heap.get? a=some o∧H a=none)→Heap.SameBut a s.heap h'→HOk X.prog X.w H h':=fun {a h'} ha hs b ob e=>by
  obtain ⟨_,_,hfree⟩:=ha
  refine (I.hok b ob e).stay (fun c w' hc q=>(hs.2 c ?_).trans q) (fun _ q=>q) fun _ _ q=>q
  rintro rfl
  rcases hc with rfl | hc
  ·rw [hfree] at e;cases e
  ·rw [hfree] at hc;cases hc
 rcases hx with hk | hk
 ·refine wpAny_storeName_local hk hn (fun h' hn' hs=>?_) hcls
  obtain ⟨oL,_,_,hoL,_⟩:=id hn
  refine h _ ⟨I.ok,I.os,I.bare,⟨fun b o e n hb hx=>?_,fun b o e n hb hx=>?_,I.base.free,fun b o e hx=>?_,I.base.tups,I.base.frzs,I.base.tbls⟩,⟨_,hn',fun j y v' e1 e2 e3=>?_⟩,fun y c e=>?_,I.free,I.freeC,fun p hp=>?_,tracked ⟨oL,hoL,I.free⟩ hs,by simpa using I.len⟩ ⟨_,hs,.inl rfl⟩
  ·exact (hs.2 b (Nat.ne_of_lt (Nat.lt_of_lt_of_le (Heap.lt_size e) I.ok.above))).trans (I.base.keep b o e n hb hx)
  ·obtain ⟨sl,e1⟩:=I.base.slot b o e n hb hx
   exact ⟨sl,(hs.2 b (Nat.ne_of_lt (Nat.lt_of_lt_of_le (Heap.lt_size e) I.ok.above))).trans e1⟩
  ·obtain ⟨o',e1⟩:=I.base.there b o e hx
   exact ⟨o',(hs.2 b (Nat.ne_of_lt (Nat.lt_of_lt_of_le (Heap.lt_size e) I.ok.above))).trans e1⟩
  ·by_cases hj:j=i
   ·subst hj
    rw [hi] at e1;cases e1
    rw [List.getElem?_set_self hiσ] at e2
    cases e2
    exact ⟨u,r,.inl ⟨hk,by simp⟩⟩
   ·rw [List.getElem?_set_ne (Ne.symm hj)] at e2
    obtain ⟨u',r',q⟩:=hl j y v' e1 e2 e3
    refine ⟨u',r',?_⟩
    rcases q with ⟨k,e⟩ | ⟨k,c,e,z⟩
    ·refine .inl ⟨k,?_⟩
     have:y≠x:=fun e=>hj (nodup_ix hN e1 (e ▸ hi))
     simp [this,e]
    ·exact .inr ⟨k,c,e,z.sameBut hs (cne y c e)⟩
  ·obtain ⟨w',z⟩:=I.cell y c e
   exact ⟨w',z.sameBut hs (cne y c e)⟩
  ·obtain ⟨e,n,ne,nf,d⟩:=I.pin p hp
   exact ⟨(hs.2 p.1 ne).trans e,n,ne,nf,d⟩
 ·have hfn:X.fn x=true:=by
   rcases hf with z | z
   ·exact z
   ·rw [z] at hk;cases hk
  obtain ⟨c,hc⟩:=I.ok.has x (.inl hk)
  obtain ⟨w',z⟩:=I.cell x c hc
  refine wpAny_storeName_cell I.ok.kind hk hc z (fun h' hc' hs=>?_)
  obtain ⟨oc,hoc,hocd⟩:=id z
  refine h { s with heap:=h' } ⟨I.ok,I.os,I.bare,⟨fun b o e n hb hx=>?_,fun b o e n hb hx=>?_,I.base.free,fun b o e hx=>?_,I.base.tups,I.base.frzs,I.base.tbls⟩,⟨m,hn.sameBut hs (Ne.symm (cne x c hc)),fun j y v' e1 e2 e3=>?_⟩,fun y c' e=>?_,I.free,I.freeC,fun p hp=>?_,tracked ⟨oc,hoc,I.freeC x c hc⟩ hs,by simpa using I.len⟩ ⟨c,hs,.inr hc⟩
  ·exact (hs.2 b (Nat.ne_of_lt (Nat.lt_of_lt_of_le (Heap.lt_size e) (I.ok.cab x c hfn hc)))).trans (I.base.keep b o e n hb hx)
  ·obtain ⟨sl,e1⟩:=I.base.slot b o e n hb hx
   exact ⟨sl,(hs.2 b (Nat.ne_of_lt (Nat.lt_of_lt_of_le (Heap.lt_size e) (I.ok.cab x c hfn hc)))).trans e1⟩
  ·obtain ⟨o',e1⟩:=I.base.there b o e hx
   exact ⟨o',(hs.2 b (Nat.ne_of_lt (Nat.lt_of_lt_of_le (Heap.lt_size e) (I.ok.cab x c hfn hc)))).trans e1⟩
  ·by_cases hj:j=i
   ·subst hj
    rw [hi] at e1;cases e1
    rw [List.getElem?_set_self hiσ] at e2
    cases e2
    exact ⟨u,r,.inr ⟨.inl hk,c,hc,hc'⟩⟩
   ·rw [List.getElem?_set_ne (Ne.symm hj)] at e2
    obtain ⟨u',r',q⟩:=hl j y v' e1 e2 e3
    refine ⟨u',r',?_⟩
    rcases q with q | ⟨k,c',e,z'⟩
    ·exact .inl q
    ·refine .inr ⟨k,c',e,z'.sameBut hs ?_⟩
     rintro rfl
     exact hj (nodup_ix hN e1 (I.ok.inj _ _ _ e hc ▸ hi))
  ·by_cases hcc:c' = c
   ·subst hcc;exact ⟨_,hc'⟩
   ·obtain ⟨w2,z2⟩:=I.cell y c' e
    exact ⟨w2,z2.sameBut hs hcc⟩
  ·obtain ⟨e,n,ne,nf,d⟩:=I.pin p hp
   refine ⟨(hs.2 p.1 ?_).trans e,n,ne,nf,d⟩
   intro q
   rw [q,hoc] at e
   have q':oc=p.2:=Option.some.inj e
   exact d w' (by rw [←q'];exact hocd)
theorem store_ok {M:Model} {A:Around} {E:Value→Shared→Prop} {i:Nat} {x:Str} {v:V} {u:Value} {Q:Unit→Shared→Prop} (I:Inv X pins σ H s) (hN:X.N.Nodup) (hi:X.N[i]? = some x) (hx:Loc X.env.scope x) (r:RelV v u)
  (h:∀ s',Inv X pins (σ.set i (some v)) H s'→Q () s') (hf:X.fn x=true∨X.env.scope.names.lookup x=some .local:=by first | exact .inl rfl | exact .inr rfl | assumption):wpAny M A (storeName X.env x u) Q E s :=
 store_ok2 I hN hi hx r (fun s' I' _=>h s' I') hf
theorem Inv.call' {s':Shared} {ch:List Addr} (I:Inv X pins σ H s) (ho:s'.os=s.os) (u:Un (frs X.stack) ch H H' s.heap s'.heap) (hok:HOk X.prog X.w H' s'.heap) (hg:AllBare s'.gens)
  (hch:∀ b∈ch,(b∈X.ex∨X.s₀.heap.objs.size≤b)∧b≠X.env.locals∧(∀ x c,X.env.cells.lookup x=some c→c≠b)∧∀ p∈X.pn++pins,p.1≠b):Inv X pins σ H' s':=by
 obtain ⟨h',g',d',t',o'⟩:=s'
 have e:o' = s.os:=ho
 subst e
 exact I.call (g':=g') (t':=t') (d':=d') u hok hg hch
end
abbrev XK:=Value→Option Addr→Hp→Prop
abbrev St:=List (Option V)
abbrev VK:=V→Hp→Prop
abbrev TE:=St→Hp→VK→Prop
abbrev TT:=St→Hp→(Bool→Hp→Prop)→Prop
abbrev TA:=St→Hp→(List V→Hp→Prop)→Prop
structure Ends where
 nx:St→Hp→Prop
 rt:VK
 bk:St→Hp→Prop:=fun _ _=>False
 ct:St→Hp→Prop:=fun _ _=>False
abbrev TS:=Ends→St→Hp→Prop
def EP (X:Cx) (pins:List (Addr×Obj)) (σ:St) (Q:VK) (u:Value) (s':Shared):Prop:=∃ v H',Inv X pins σ H' s'∧RelV v u∧Q v H'
def TP (X:Cx) (pins:List (Addr×Obj)) (σ:St) (Q:Bool→Hp→Prop) (b:Bool) (s':Shared):Prop:=∃ H',Inv X pins σ H' s'∧Q b H'
def AP (X:Cx) (pins:List (Addr×Obj)) (σ:St) (Q:List V→Hp→Prop) (us:List Value) (s':Shared):Prop:=∃ vs H',Inv X pins σ H' s'∧Vals vs us∧Q vs H'
def SP (X:Cx) (pins:List (Addr×Obj)) (D:Ends) (f:Flow) (s':Shared):Prop :=
 match f with
 | .next=>∃ σ' H',Inv X pins σ' H' s'∧D.nx σ' H'
 | .brk=>∃ σ' H',Inv X pins σ' H' s'∧D.bk σ' H'
 | .cont=>∃ σ' H',Inv X pins σ' H' s'∧D.ct σ' H'
 | .ret u=>∃ v σ' H',Inv X pins σ' H' s'∧RelV v u∧D.rt v H'
def PE (X:Cx) (e:Expr) (t:TE):Prop :=
 ∀ (pins:List (Addr×Obj)) (s:Shared) (σ:St) (H:Hp) (Q:VK),Inv X pins σ H s→t σ H Q→wpAny (model X.prog X.w) X.A (eval e X.env) (EP X pins σ Q) X.xe s
def PT (X:Cx) (e:Expr) (t:TT):Prop :=
 ∀ (pins:List (Addr×Obj)) (s:Shared) (σ:St) (H:Hp) (Q:Bool→Hp→Prop),Inv X pins σ H s→t σ H Q→wpAny (model X.prog X.w) X.A (isTrue e X.env (eval e X.env)) (TP X pins σ Q) X.xe s
def PW (X:Cx) (e:Expr) (t:TT):Prop :=
 ∀ (whole:Sem Value) (pins:List (Addr×Obj)) (s:Shared) (σ:St) (H:Hp) (Q:Bool→Hp→Prop),Inv X pins σ H s→t σ H Q→wpAny (model X.prog X.w) X.A (isTrue e X.env whole) (TP X pins σ Q) X.xe s
theorem PW.pt {X:Cx} {e:Expr} {t:TT} (h:PW X e t):PT X e t:=h _
def PA (X:Cx) (es:List Expr) (t:TA):Prop :=
 ∀ (pos:Pos) (pins:List (Addr×Obj)) (s:Shared) (σ:St) (H:Hp) (Q:List V→Hp→Prop),Inv X pins σ H s→t σ H Q→wpAny (model X.prog X.w) X.A (spliced (backTo pos (starEach es X.env))) (AP X pins σ Q) X.xe s
def PS (X:Cx) (st:Stmt) (t:TS):Prop :=
 ∀ (pins:List (Addr×Obj)) (s:Shared) (σ:St) (H:Hp) (D:Ends),Inv X pins σ H s→t D σ H→wpAny (model X.prog X.w) X.A (exec st X.env) (SP X pins D) X.xe s
def PSs (X:Cx) (st:List Stmt) (t:TS):Prop :=
 ∀ (pins:List (Addr×Obj)) (s:Shared) (σ:St) (H:Hp) (D:Ends),Inv X pins σ H s→t D σ H→wpAny (model X.prog X.w) X.A (execs st X.env) (SP X pins D) X.xe s
theorem thn {α:Type} {t:Sem α} {Q Q':α→Shared→Prop} {M:Model} {A:Around} {E:Value→Shared→Prop} {s:Shared} (h:wpAny M A t Q E s) (hQ:∀ a s,Q a s→Q' a s):wpAny M A t Q' E s:=wpAny_mono h hQ fun _ _ x=>x
end L2
namespace L2
open PySem PySem.Spec PyProof.Rows
section
variable {X:Cx}
def tVar (i:Nat):TE:=fun σ H Q=>∃ v,σ[i]? = some (some v)∧Q v H
def tC (v:V):TE:=fun _ H Q=>Q v H
theorem pe_var {i:Nat} {x:Str} {pos:Pos} (hN:X.N[i]? = some x) (hv:Vis X.env.scope x) (hd:(x == ("__debug__":Str))=false:=by decide) (hcd:(x == ("__classdict__":Str))=false:=by decide):PE X (.Name x pos) (tVar i):=by
 intro pins s σ H Q I h
 obtain ⟨v,e,h⟩:=h
 obtain ⟨m,hn,hl⟩:=I.loc
 obtain ⟨u,r,l⟩:=hl i x v hN e hv
 have fin:EP X pins σ Q u s:=⟨v,H,I,r,h⟩
 rcases l with ⟨hk,hm⟩ | ⟨hk,c,hc,hcell⟩
 ·exact wpAny_Name (wpAny_loadName_local I.ok.kind hk hn hm fin) hd
 ·rcases hk with hk | hk
  ·exact wpAny_Name (wpAny_loadName_cell I.ok.kind hk hc hcell fin) hd
  ·exact wpAny_Name (wpAny_loadName_free I.ok.kind hk hc hcell fin hcd) hd
theorem pe_int {i j pos}:PE X (.Constant (.int i) j pos) (tC (.int i)):=fun _ _ _ H _ I h=>wpAny_Constant_int ⟨.int i,H,I.tok _,⟨_,rfl⟩,h⟩
theorem pe_bl {b j pos}:PE X (.Constant (.bool b) j pos) (tC (.bl b)):=fun _ _ _ H _ I h=>Constant_bool ⟨.bl b,H,I,rfl,h⟩
theorem aaN {j pos}:PE X (.Constant .none j pos) (tC .non):=fun _ _ _ H _ I h=>Constant_none ⟨.non,H,I,rfl,h⟩
theorem aaO {x j pos}:PE X (.Constant (.str x) j pos) (tC (.str x)):=fun _ _ _ H _ I h=>Calls.Constant_str ⟨.str x,H,I.tok _,⟨_,rfl⟩,h⟩
def Gl (X:Cx) (x:Str):Prop:=X.env.kindOf x=some .globalImplicit
theorem ld_glob {E:Value→Shared→Prop} {pins:List (Addr×Obj)} {s:Shared} {σ:St} {H:Hp} {x:Str} {u:Value} {pos:Pos} {Q:Value→Shared→Prop} (I:Inv X pins σ H s) (hg:Gl X x) (hm:X.mg x=some u) (h:Q u s)
  (hd:(x == ("__debug__":Str))=false:=by decide):wpAny (model X.prog X.w) X.A (eval (.Name x pos) X.env) Q E s :=
 Calls.Name_function_global I.ok.kind hg (Calls.loadGlobal_global (by rw [I.ok.glob];exact I.mod.glob.keeps I.bk) hm h) hd
theorem ld_blt {E:Value→Shared→Prop} {pins:List (Addr×Obj)} {s:Shared} {σ:St} {H:Hp} {x:Str} {u:Value} {pos:Pos} {Q:Value→Shared→Prop} (I:Inv X pins σ H s) (hg:Gl X x) (hm:X.mg x=none) (hv:bootBuiltins x=some u) (h:Q u s)
  (hn:x ≠ "__name__":=by decide) (hd:(x == ("__debug__":Str))=false:=by decide):wpAny (model X.prog X.w) X.A (eval (.Name x pos) X.env) Q E s:=by
 obtain ⟨mb,h1,h2⟩:=I.mod.blt
 exact Calls.Name_function_global I.ok.kind hg (Calls.loadGlobal_builtin (by rw [I.ok.glob];exact I.mod.glob.keeps I.bk) hm (by rw [I.ok.blt];exact h1.keeps I.bk) ((h2 x hn).trans hv) h) hd
theorem YJ {x:Str} {v:V} {u:Value} {pos:Pos} (hg:Gl X x) (hm:X.mg x=some u) (r:RelV v u) (hd:(x == ("__debug__":Str))=false:=by decide):PE X (.Name x pos) (tC v) :=
 fun _ _ _ H _ I h=>ld_glob I hg hm ⟨v,H,I,r,h⟩ hd
theorem YK {x:Str} {v:V} {u:Value} {pos:Pos} (hg:Gl X x) (hm:X.mg x=none) (hv:bootBuiltins x=some u) (r:RelV v u) (hn:x ≠ "__name__":=by decide) (hd:(x == ("__debug__":Str))=false:=by decide):PE X (.Name x pos) (tC v) :=
 fun _ _ _ H _ I h=>ld_blt I hg hm hv ⟨v,H,I,r,h⟩ hn hd
variable {a b:Expr} {ta tb:TE} {pos:Pos}
def PC (X:Cx) (op:CmpOp) (a b:Expr) (t:TE):Prop :=
 ∀ (pins:List (Addr×Obj)) (s:Shared) (σ:St) (H:Hp) (Q:VK),Inv X pins σ H s→t σ H Q →
  wpAny (model X.prog X.w) X.A (eval a X.env) (fun v s₁=>wpAny (model X.prog X.w) X.A (eval b X.env) (fun u s₂=>wpAny (model X.prog X.w) X.A (compareOp op v u) (EP X pins σ Q) X.xe s₂) X.xe s₁) X.xe s
theorem nobehind (b:Expr) {op:CmpOp} (h:op≠.In) (h2:op≠.NotIn):behindInMarks op b=false:=by
 have e1:(op == CmpOp.In)=false:=by cases op <;> first | rfl | exact absurd rfl h
 have e2:(op == CmpOp.NotIn)=false:=by cases op <;> first | rfl | exact absurd rfl h2
 cases b <;> simp [behindInMarks,e1,e2]
def tB (t:TE):TT:=fun σ H Q=>t σ H fun x H1=>∃ c,x=.bl c∧Q c H1
theorem pt_cmp {op:CmpOp} {t:TE} (h:PC X op a b t) (h1:behindInMarks op b=false:=by first | exact nobehind _ (by decide) (by decide) | rfl):PT X (.Compare a [op] [b] pos) (tB t):=by
 intro pins s σ H Q I hw
 refine wpAny_isTrue_Compare1 (thn (h pins s σ H _ I hw) fun v s1 h1=>thn h1 fun u s2 h2=>thn h2 fun c s3 ⟨x,H1,I1,r1,q1⟩=>?_) h1
 obtain ⟨d,rfl,q⟩:=q1
 cases r1
 exact wpAny_truthy_bool ⟨H1,I1,q⟩
theorem aaP {e:Expr} {t:TE} (h:PE X e t) (he:∀ whole,isTrue e X.env whole=(do let v ←whole;standAt e.pos;holding [v] (truthy v)):=by intro _;rfl):PT X e (tB t):=by
 intro pins s σ H Q I hw
 refine isTrue_plain (thn (h pins s σ H _ I hw) fun v s1 ⟨x,H1,I1,r1,q1⟩=>?_) (he _)
 obtain ⟨d,rfl,q⟩:=q1
 cases r1
 exact wpAny_truthy_bool ⟨H1,I1,q⟩
variable {tA tB':TT} {rest:List Expr}
def aaQ (t u:TT):TT:=fun σ H Q=>t σ H fun c H1=>if c=true then u σ H1 Q else Q false H1
def tOr (t u:TT):TT:=fun σ H Q=>t σ H fun c H1=>if c=true then Q true H1 else u σ H1 Q
def aaR (t:TT):TT:=fun σ H Q=>t σ H fun c H1=>Q (!c) H1
theorem pw_and1 (ha:PT X a tA):PW X (.BoolOp .And [a] pos) tA:=by
 intro wh pins s σ H Q I h
 refine isTrue_and (thn (ha pins s σ H Q I h) fun c s1 e=>?_)
 cases c with
 | true=>exact isTrue_and_nil e
 | false=>exact e
theorem pw_or1 (ha:PT X a tA):PW X (.BoolOp .Or [a] pos) tA:=by
 intro wh pins s σ H Q I h
 refine isTrue_or (thn (ha pins s σ H Q I h) fun c s1 e=>?_)
 cases c with
 | false=>exact isTrue_or_nil e
 | true=>exact e
theorem pw_and (ha:PT X a tA) (hb:PW X (.BoolOp .And (b::rest) pos) tB'):PW X (.BoolOp .And (a::b::rest) pos) (aaQ tA tB'):=by
 intro wh pins s σ H Q I h
 refine isTrue_and (thn (ha pins s σ H _ I h) fun c s1 ⟨H1,I1,q1⟩=>?_)
 cases c with
 | true=>exact hb wh pins s1 σ H1 Q I1 q1
 | false=>exact ⟨H1,I1,q1⟩
theorem pw_or (ha:PT X a tA) (hb:PW X (.BoolOp .Or (b::rest) pos) tB'):PW X (.BoolOp .Or (a::b::rest) pos) (tOr tA tB'):=by
 intro wh pins s σ H Q I h
 refine isTrue_or (thn (ha pins s σ H _ I h) fun c s1 ⟨H1,I1,q1⟩=>?_)
 cases c with
 | true=>exact ⟨H1,I1,q1⟩
 | false=>exact hb wh pins s1 σ H1 Q I1 q1
theorem aaS (ha:PT X a tA):PT X (.UnaryOp .Not a pos) (aaR tA):=by
 intro pins s σ H Q I h
 exact isTrue_not (ha pins s σ H (fun c H1=>Q (!c) H1) I h)
def Vf (ta tb:TE):TE:=fun σ H Q=>ta σ H fun x H1=>∃ c,x=.bl c∧if c=true then tb σ H1 Q else Q (.bl false) H1
def Vg (ta:TE):TE:=fun σ H Q=>ta σ H fun x H1=>∃ c,x=.bl c∧Q (.bl (!c)) H1
theorem aaT {op} {t:TE} (h:PE X a t):PE X (.BoolOp op [a] pos) t:=fun pins s σ H Q I hw=>BoolOp_one (h pins s σ H Q I hw)
theorem aaU (ha:PE X a ta) (hb:PE X (.BoolOp .And (b::rest) pos) tb):PE X (.BoolOp .And (a::b::rest) pos) (Vf ta tb):=by
 intro pins s σ H Q I h
 refine BoolOp_and (thn (ha pins s σ H _ I h) fun v s1 ⟨x,H1,I1,r1,q1⟩=>?_)
 obtain ⟨c,rfl,q1⟩:=q1
 cases r1
 refine wpAny_truthy_bool ?_
 cases c with
 | true=>exact hb pins s1 σ H1 Q I1 q1
 | false=>exact ⟨.bl false,H1,I1,rfl,q1⟩
theorem aaV (ha:PE X a ta):PE X (.UnaryOp .Not a pos) (Vg ta):=by
 intro pins s σ H Q I h
 refine UnaryOp_ (thn (ha pins s σ H _ I h) fun v s1 ⟨x,H1,I1,r1,q1⟩=>?_)
 obtain ⟨c,rfl,q1⟩:=q1
 cases r1
 exact not_of (wpAny_truthy_bool ⟨.bl (!c),H1,I1,rfl,q1⟩)
def tIf (t:TT) (ta tb:TE):TE:=fun σ H Q=>t σ H fun c H1=>if c=true then ta σ H1 Q else tb σ H1 Q
theorem Vh {c:Expr} (hc:PT X c tA) (ha:PE X a ta) (hb:PE X b tb):PE X (.IfExp c a b pos) (tIf tA ta tb):=by
 intro pins s σ H Q I h
 refine wpAny_IfExp (thn (hc pins s σ H _ I h) fun d s1 ⟨H1,I1,q1⟩=>?_)
 cases d with
 | true=>exact ha pins s1 σ H1 Q I1 q1
 | false=>exact hb pins s1 σ H1 Q I1 q1
end
end L2
namespace L2
open PySem PySem.Spec PyProof.Rows
def SqL (K:PySem.W.Frag) (H:Hp) (a:Addr) (xs:List V):Prop :=
 Rd H a (.lst xs) ∨
  ∃ (o:Obj) (its:Array Value) (n:Nat),K.lookup a=some o∧o.cls=.type "list"∧o.dict=none∧o.data=.seq its n∧its.size≤sizeLine∧Vals xs its.toList
def SqT (K:PySem.W.Frag) (H:Hp) (a:Addr) (xs:List V):Prop :=
 Rd H a (.tup xs) ∨
  ∃ (o:Obj) (its:Array Value) (n:Nat),K.lookup a=some o∧o.cls=.type "tuple"∧o.data=.seq its n∧its.size≤sizeLine∧Vals xs its.toList
def absV:Value→Option V
 | .none=>some .non
 | .bool b=>some (.bl b)
 | .int i _=>some (.int i)
 | .str x _=>some (.str x)
 | .bytes b _=>some (.byt b)
 | .float b _=>some (.flt b)
 | .ref a=>some (.ref a)
 | .type n=>some (.ty n)
 | _=>none
theorem RelV.abs {x:V} {u:Value} (r:RelV x u):absV u=some x:=by
 cases x with
 | non=>cases r;rfl
 | bl _=>cases r;rfl
 | int _=>obtain ⟨t,rfl⟩:=r;rfl
 | str _=>obtain ⟨t,rfl⟩:=r;rfl
 | byt _=>obtain ⟨t,rfl⟩:=r;rfl
 | flt _=>obtain ⟨t,rfl⟩:=r;rfl
 | ref _=>cases r;rfl
 | ty _=>cases r;rfl
theorem RelV.inj {x y:V} {u:Value} (r:RelV x u) (q:RelV y u):x=y:=Option.some.inj (r.abs.symm.trans q.abs)
theorem Vals.inj:∀ {xs ys:List V} {us:List Value},Vals xs us→Vals ys us→xs=ys
 | _,_,_,.nil,.nil=>rfl
 | _,_,_,.cons r t,.cons r' t'=>by rw [r.inj r',Vals.inj t t']
section
variable {X:Cx} {pins:List (Addr×Obj)} {σ:St} {H:Hp} {s:Shared} {a:Addr} {xs ys:List V}
theorem SqL.of {K:PySem.W.Frag} (h:H a=some (.lst xs)):SqL K H a xs:=.inl (.inl h)
theorem SqT.of {K:PySem.W.Frag} (h:H a=some (.tup xs)):SqT K H a xs:=.inl (.inl h)
theorem Inv.list (I:Inv X pins σ H s) (h:SqL X.K H a xs):∃ its:List Value,Vals xs its∧PlainL s.heap a its.toArray∧xs.length≤sizeLine:=by
 rcases h with h | ⟨o,its,n,hk,hc,hd,hs,hz,r⟩
 ·obtain ⟨z,its,n,r,e⟩:=h.ok I.hok
  exact ⟨its,r,⟨_,n,e,rfl,rfl,rfl⟩,z⟩
 ·refine ⟨its.toList,r,⟨o,n,I.kIn a o hk,hc,hd,by simpa using hs⟩,?_⟩
  have e:=r.length
  simp only [Array.length_toList] at e
  omega
theorem Inv.tuple (I:Inv X pins σ H s) (h:SqT X.K H a xs):∃ its:List Value,Vals xs its∧IsTup s.heap a its.toArray∧xs.length≤sizeLine:=by
 rcases h with h | ⟨o,its,n,hk,hc,hs,hz,r⟩
 ·obtain ⟨z,its,r,p⟩:=h.ok I.hok
  exact ⟨its,r,p,z⟩
 ·refine ⟨its.toList,r,⟨o,I.kIn a o hk,hc,n,by simpa using hs⟩,?_⟩
  have e:=r.length
  simp only [Array.length_toList] at e
  omega
theorem Inv.list_inj (I:Inv X pins σ H s) (h:SqL X.K H a xs) (h':SqL X.K H a ys):xs=ys:=by
 obtain ⟨its,r,⟨o,n,e,_,_,d⟩,_⟩:=I.list h
 obtain ⟨its',r',⟨o',n',e',_,_,d'⟩,_⟩:=I.list h'
 rw [e] at e';cases e'
 rw [d] at d'
 injection d' with d1 _
 have:its=its':=by simpa using congrArg Array.toList d1
 subst this
 exact r.inj r'
theorem Inv.T4 (I:Inv X pins σ H s) (h:SqT X.K H a xs) (h':SqT X.K H a ys):xs=ys:=by
 obtain ⟨its,r,⟨o,e,_,n,d⟩,_⟩:=I.tuple h
 obtain ⟨its',r',⟨o',e',_,n',d'⟩,_⟩:=I.tuple h'
 rw [e] at e';cases e'
 rw [d] at d'
 injection d' with d1 _
 have:its=its':=by simpa using congrArg Array.toList d1
 subst this
 exact r.inj r'
end
abbrev Cx.wish (X:Cx) (E:Value→Shared→Prop):Cx:={ X with xe:=E }
abbrev Cx.nox (X:Cx):Cx:=X.wish fun _ _=>False
theorem Cx.Ok.wish {X:Cx} (ok:X.Ok) (E:Value→Shared→Prop):(X.wish E).Ok :=
 ⟨ok.mod,ok.kind,ok.glob,ok.blt,ok.above,ok.inj,ok.has,ok.cab,ok.hd,ok.frames,ok.stk,ok.exf,ok.bs,ok.bsz,ok.noex,ok.exfs,ok.funs,ok.frf⟩
theorem Cx.Ok.unwish {X:Cx} {E:Value→Shared→Prop} (ok:(X.wish E).Ok):X.Ok :=
 ⟨ok.mod,ok.kind,ok.glob,ok.blt,ok.above,ok.inj,ok.has,ok.cab,ok.hd,ok.frames,ok.stk,ok.exf,ok.bs,ok.bsz,ok.noex,ok.exfs,ok.funs,ok.frf⟩
section
variable {X:Cx} {pins:List (Addr×Obj)} {σ:St} {H:Hp} {s:Shared} {E:Value→Shared→Prop}
theorem Inv.wish (I:Inv X pins σ H s) (E:Value→Shared→Prop):Inv (X.wish E) pins σ H s:=⟨I.ok.wish E,I.os,I.bare,I.base,I.loc,I.cell,I.free,I.freeC,I.pin,I.hok,I.len⟩
theorem Inv.unwish (I:Inv (X.wish E) pins σ H s):Inv X pins σ H s:=⟨I.ok.unwish,I.os,I.bare,I.base,I.loc,I.cell,I.free,I.freeC,I.pin,I.hok,I.len⟩
theorem SP.unwish {D:Ends} {f:Flow} {s':Shared} (h:SP (X.wish E) pins D f s'):SP X pins D f s':=by
 cases f with
 | next=>obtain ⟨σ',H',I,q⟩:=h;exact ⟨σ',H',I.unwish,q⟩
 | brk=>obtain ⟨σ',H',I,q⟩:=h;exact ⟨σ',H',I.unwish,q⟩
 | cont=>obtain ⟨σ',H',I,q⟩:=h;exact ⟨σ',H',I.unwish,q⟩
 | ret u=>obtain ⟨v,σ',H',I,r,q⟩:=h;exact ⟨v,σ',H',I.unwish,r,q⟩
theorem PSs.nox {st:List Stmt} {t:TS} (h:PSs X.nox st t):PSs X st t:=fun pins s σ H D I hw =>
 wpAny_mono (h pins s σ H D (I.wish _) hw) (fun _ _ q=>q.unwish) fun _ _ z=>False.elim z
end
section
variable {X:Cx} {st:Stmt} {rest:List Stmt} {t u:TS} {e:Expr} {te:TE} {pos:Pos}
def tNext:TS:=fun D σ H=>D.nx σ H
def tSeq (t u:TS):TS:=fun D σ H=>t { D with nx:=u D } σ H
theorem pss_nil:PSs X [] tNext:=fun _ _ σ H _ I h=>wpAny_execs_nil ⟨σ,H,I,h⟩
theorem pss_cons (h1:PS X st t) (h2:PSs X rest u):PSs X (st::rest) (tSeq t u):=by
 intro pins s σ H D I h
 refine wpAny_execs_cons (thn (h1 pins s σ H { D with nx:=u D } I h) fun f s1 q=>?_)
 cases f with
 | next =>
  obtain ⟨σ',H',I',q⟩:=q
  exact h2 pins s1 σ' H' D I' q
 | ret v=>exact q
 | brk=>exact q
 | cont=>exact q
theorem pss_one (h1:PS X st t):PSs X [st] t:=by
 intro pins s σ H D I h
 refine wpAny_execs_cons (thn (h1 pins s σ H D I h) fun f s1 q=>?_)
 cases f with
 | next=>exact wpAny_execs_nil q
 | ret v=>exact q
 | brk=>exact q
 | cont=>exact q
theorem Inv.quiet {pins:List (Addr×Obj)} {σ:St} {H:Hp} {s:Shared} (I:Inv X pins σ H s):interactive X.env=false:=by simp [interactive,I.ok.kind]
def tDrop (te:TE):TS:=fun D σ H=>te σ H fun _ H1=>D.nx σ H1
theorem ps_expr (he:PE X e te) (hs:swapsWith e none pos.line X.env=pure false:=by rfl):PS X (.Expr e pos) (tDrop te):=by
 intro pins s σ H D I h
 exact wpAny_Expr_any (thn (he pins s σ H _ I h) fun v s1 ⟨x,H1,I1,r1,q1⟩=>⟨σ,H1,I1,q1⟩) I.quiet hs
def tRet (te:TE):TS:=fun D σ H=>te σ H D.rt
theorem ps_ret (he:PE X e te):PS X (.Return (some e) pos) (tRet te):=by
 intro pins s σ H D I h
 exact wpAny_Return_some (thn (he pins s σ H _ I h) fun v s1 ⟨x,H1,I1,r1,q1⟩=>⟨x,σ,H1,I1,r1,q1⟩)
def tIfS (c:TT) (t u:TS):TS:=fun D σ H=>c σ H fun b H1=>if b=true then t D σ H1 else u D σ H1
theorem ps_if {c:Expr} {a b:List Stmt} {tc:TT} (hc:PT X c tc) (ha:PSs X a t) (hb:PSs X b u):PS X (.If c a b pos) (tIfS tc t u):=by
 intro pins s σ H D I h
 refine wpAny_If (thn (hc pins s σ H _ I h) fun d s1 ⟨H1,I1,q1⟩=>?_)
 cases d with
 | true=>exact ha pins s1 σ H1 D I1 q1
 | false=>exact hb pins s1 σ H1 D I1 q1
def Vi:TS:=fun _ _ _=>False
theorem Vj:PS X st Vi:=fun _ _ _ _ _ _ h=>h.elim
end
abbrev TG:=V→St→Hp→(St→Hp→Prop)→Prop
abbrev U9:=List V→St→Hp→(St→Hp→Prop)→Prop
def PG (X:Cx) (target:Expr) (t:TG):Prop :=
 ∀ (pins:List (Addr×Obj)) (s:Shared) (σ:St) (H:Hp) (v:V) (u:Value) (Q:St→Hp→Prop),Inv X pins σ H s→RelV v u→t v σ H Q →
  wpAny (model X.prog X.w) X.A (assign target X.env u) (fun _ s'=>∃ σ' H',Inv X pins σ' H' s'∧Q σ' H') X.xe s
def PGs (X:Cx) (ts:List Expr) (t:U9):Prop :=
 ∀ (pins:List (Addr×Obj)) (s:Shared) (σ:St) (H:Hp) (vs:List V) (us:List Value) (Q:St→Hp→Prop),Inv X pins σ H s→Vals vs us→t vs σ H Q →
  wpAny (model X.prog X.w) X.A (assignInOrder ((assignEach ts X.env).map (·.2)) us) (fun _ s'=>∃ σ' H',Inv X pins σ' H' s'∧Q σ' H') X.xe s
abbrev JQ:=V→V→V→Hp→(Hp→Prop)→Prop
def Vk (X:Cx) (t:JQ):Prop :=
 ∀ (pins:List (Addr×Obj)) (s:Shared) (σ:St) (H:Hp) (o i v:V) (ov iv u:Value) (Q:Hp→Prop),Inv X pins σ H s→RelV o ov→RelV i iv→RelV v u→t o i v H Q →
  wpAny (model X.prog X.w) X.A (setItem ov iv u) (fun _ s'=>∃ H',Inv X pins σ H' s'∧Q H') X.xe s
abbrev Vl:=V→V→Hp→VK→Prop
def PIp (X:Cx) (op:Operator) (t:Vl):Prop :=
 ∀ (pins:List (Addr×Obj)) (s:Shared) (σ:St) (H:Hp) (x y:V) (v u:Value) (Q:VK),Inv X pins σ H s→RelV x v→RelV y u→t x y H Q →
  wpAny (model X.prog X.w) X.A (inplaceOp op v u) (EP X pins σ Q) X.xe s
section
variable {X:Cx} {pos:Pos}
def gName (i:Nat):TG:=fun v σ H Q=>Q (σ.set i (some v)) H
theorem pg_name {i:Nat} {x:Str} (hN:X.N.Nodup) (hi:X.N[i]? = some x) (hx:Loc X.env.scope x) (hf:X.fn x=true∨X.env.scope.names.lookup x=some .local:=by first | exact .inl rfl | exact .inr rfl | assumption):PG X (.Name x pos) (gName i):=by
 intro pins s σ H v u Q I r h
 exact wpAny_assign_Name (store_ok I hN hi hx r (fun s' I'=>⟨_,H,I',h⟩) hf)
def aaW:U9:=fun vs σ H Q=>vs=[]∧Q σ H
def Vm (t:TG) (u:U9):U9:=fun vs σ H Q=>∃ v r,vs=v::r∧t v σ H fun σ' H'=>u r σ' H' Q
theorem YL:PGs X [] aaW:=by
 intro pins s σ H vs us Q I r h
 obtain ⟨e,h⟩:=h
 subst e
 cases r
 exact assignInOrder_nil ⟨σ,H,I,h⟩
theorem Vn {e:Expr} {es:List Expr} {t:TG} {u:U9} (h1:PG X e t) (h2:PGs X es u)
  (hs:(assignEach (e::es) X.env).map (·.2)=assign e X.env::(assignEach es X.env).map (·.2):=by rfl):PGs X (e::es) (Vm t u):=by
 intro pins s σ H vs us Q I r h
 obtain ⟨v,vr,e1,h⟩:=h
 subst e1
 cases r with
 | cons r rr =>
  rw [hs]
  refine assignInOrder_cons (thn (h1 pins s σ H _ _ _ I r h) fun _ s1 ⟨σ1,H1,I1,q1⟩=>?_)
  exact h2 pins s1 σ1 H1 _ _ Q I1 rr q1
def aaX (K:PySem.W.Frag) (n:Nat) (t:U9):TG:=fun v σ H Q=>∃ a xs,v=.ref a∧SqT K H a xs∧xs.length=n∧t xs σ H Q
theorem aaY {es:List Expr} {k:Nat} {t:U9} {n:Nat} (hc:X.calm=true) (h:PGs X es t)
  (hn:(assignEach es X.env).length=n:=by rfl) (hst:(assignEach es X.env).findIdx? (·.1)=none:=by rfl):PG X (.Tuple es k pos) (aaX X.K n t):=by
 intro pins s σ H v u Q I r hw
 obtain ⟨a,xs,e1,hq,hl,hw⟩:=hw
 subst e1
 cases r
 obtain ⟨its,rv,ht,hz⟩:=I.tuple hq
 refine assign_Tuple_tuple (I.ok.hd hc) ht (by simp [hn,←hl,rv.length]) hst fun h' hx=>?_
 have I1:Inv X pins σ H { s with heap:=h' }:=I.kept (t':=s.toks) fun b o e=>hx b o (Nat.ne_of_lt (Heap.lt_size e)) e
 exact h pins _ σ H xs _ Q I1 (by simpa using rv) hw
def Vo (to ti:TE) (t:JQ):TG:=fun v σ H Q=>to σ H fun o H1=>ti σ H1 fun i H2=>t o i v H2 fun H3=>Q σ H3
theorem aaZ {o i:Expr} {to ti:TE} {t:JQ} (ho:PE X o to) (hi:PE X i ti) (hs:Vk X t)
  (ha:∀ v,assign (.Subscript o i pos) X.env v=(do
   let ov ←holding [v] (eval o X.env)
   let iv ←holding [v,ov] (eval i X.env)
   standAt pos
   holding [v,ov,iv] (setItem ov iv v)
   release [v,ov,iv] []):=by intro _;rfl):PG X (.Subscript o i pos) (Vo to ti t):=by
 intro pins s σ H v u Q I r h
 rw [ha]
 refine wpAny_bind (wpAny_holding (thn (ho pins s σ H _ I h) fun ov s1 ⟨x,H1,I1,r1,q1⟩=>?_))
 refine wpAny_bind (wpAny_holding (thn (hi pins s1 σ H1 _ I1 q1) fun iv s2 ⟨y,H2,I2,r2,q2⟩=>?_))
 refine wpAny_bind (wpAny_standAt (wpAny_bind (wpAny_holding (thn (hs pins s2 σ H2 x y v ov iv u _ I2 r1 r2 r q2) fun _ s3 ⟨H3,I3,q3⟩=>?_))))
 exact wpAny_release ⟨σ,H3,I3,q3⟩
def tAsg (te:TE) (g:TG):TS:=fun D σ H=>te σ H fun x H1=>g x σ H1 D.nx
theorem aa0 {tg e:Expr} {te:TE} {g:TG} (he:PE X e te) (hg:PG X tg g) (hs:swapsWithSole [tg] e pos.line X.env=pure false:=by rfl) (hw:swappedStores [tg] e X.env=pure none:=by rfl)
  (h1:(assignEach [tg] X.env).map (·.2)=[assign tg X.env]:=by rfl):PS X (.Assign [tg] e pos) (tAsg te g):=by
 intro pins s σ H D I h
 refine wpAny_Assign_stores (thn (he pins s σ H _ I h) fun v s1 ⟨x,H1,I1,r1,q1⟩=>?_) hs hw
 rw [h1]
 exact thn (hg pins s1 σ H1 x v _ I1 r1 q1) fun _ s2 q=>q
theorem ps_set {i:Nat} {x:Str} {e:Expr} {te:TE} {pos':Pos} (hN:X.N.Nodup) (hi:X.N[i]? = some x) (hx:Loc X.env.scope x) (he:PE X e te) (hs:swapsWith e (some (.Name x pos')) pos.line X.env=pure false:=by rfl) (hf:X.fn x=true∨X.env.scope.names.lookup x=some .local:=by first | exact .inl rfl | exact .inr rfl | assumption) :
  PS X (.Assign [.Name x pos'] e pos) (tAsg te (gName i)):=by
 intro pins s σ H D I h
 refine wpAny_Assign_Name (thn (he pins s σ H _ I h) fun v s1 ⟨y,H1,I1,r1,q1⟩=>?_) hs
 exact store_ok I1 hN hi hx r1 (fun s2 I2=>⟨_,H1,I2,q1⟩) hf
def Vp (i:Nat) (te:TE) (ti:Vl):TS:=fun D σ H=>∃ x,σ[i]? = some (some x)∧te σ H fun y H1=>ti x y H1 fun z H2=>D.nx (σ.set i (some z)) H2
theorem aa1 {i:Nat} {x:Str} {e:Expr} {te:TE} {op:Operator} {ti:Vl} {pos':Pos} (hN:X.N.Nodup) (hi:X.N[i]? = some x) (hx:Loc X.env.scope x) (he:PE X e te) (ho:PIp X op ti) (hf:X.fn x=true∨X.env.scope.names.lookup x=some .local:=by first | exact .inl rfl | exact .inr rfl | assumption) :
  PS X (.AugAssign (.Name x pos') op e pos) (Vp i te ti):=by
 intro pins s σ H D I h
 obtain ⟨v,e1,h⟩:=h
 obtain ⟨m,hn,hl⟩:=I.loc
 have vis:Vis X.env.scope x:=by rcases hx with k | k;exact .inl k;exact .inr (.inl k)
 obtain ⟨u,r,l⟩:=hl i x v hi e1 vis
 refine wpAny_AugAssign_Name ?_
 have go:wpAny (model X.prog X.w) X.A (eval e X.env) (fun w s₂=>wpAny (model X.prog X.w) X.A (inplaceOp op u w) (fun r s₃=>wpAny (model X.prog X.w) X.A (storeName X.env x r) (fun _=>SP X pins D .next) X.xe s₃) X.xe s₂) X.xe s:=by
  refine thn (he pins s σ H _ I h) fun w s1 ⟨y,H1,I1,r1,q1⟩=>?_
  refine thn (ho pins s1 σ H1 v y u w _ I1 r r1 q1) fun z s2 ⟨zv,H2,I2,r2,q2⟩=>?_
  exact store_ok I2 hN hi hx r2 (fun s3 I3=>⟨_,H2,I3,q2⟩) hf
 rcases l with ⟨hk,hm⟩ | ⟨hk,c,hc,hcell⟩
 ·exact wpAny_loadName_local I.ok.kind hk hn hm go
 ·rcases hk with hk | hk
  ·exact wpAny_loadName_cell I.ok.kind hk hc hcell go
  ·rcases hx with k | k
   ·have:X.env.scope.names.lookup x=some .free:=hk
    rw [k] at this;cases this
   ·have:X.env.scope.names.lookup x=some .free:=hk
    rw [k] at this;cases this
def Vq (to ti te:TE) (Hs:V→V→Hp→VK→Prop) (YF:Vl) (Ht:JQ):TS:=fun D σ H=>to σ H fun o H1=>ti σ H1 fun i H2=>Hs o i H2 fun x H3=>te σ H3 fun y H4=>YF x y H4 fun z H5=>Ht o i z H5 fun H6=>D.nx σ H6
def YM (X:Cx) (t:V→V→Hp→VK→Prop):Prop :=
 ∀ (pins:List (Addr×Obj)) (s:Shared) (σ:St) (H:Hp) (o i:V) (ov iv:Value) (Q:VK),Inv X pins σ H s→RelV o ov→RelV i iv→t o i H Q →
  wpAny (model X.prog X.w) X.A (getItem ov iv) (EP X pins σ Q) X.xe s
theorem YQ {o i e:Expr} {to ti te:TE} {Hs:V→V→Hp→VK→Prop} {YF:Vl} {Ht:JQ} {op:Operator} {tpos:Pos} (ho:PE X o to) (hi:PE X i ti) (hg:YM X Hs) (he:PE X e te) (hp:PIp X op YF) (hs:Vk X Ht)
  (ha:∀ ov iv new,augStore i ov iv new=(do holding [new,ov,iv] (setItem ov iv new);release [new,ov,iv] [];pure .next):=by intros;rfl):PS X (.AugAssign (.Subscript o i tpos) op e pos) (Vq to ti te Hs YF Ht):=by
 intro pins s σ H D I h
 refine wpAny_AugAssign_SubscriptAny (thn (ho pins s σ H _ I h) fun ov s1 ⟨x1,H1,I1,r1,q1⟩=>?_) ha
 refine thn (hi pins s1 σ H1 _ I1 q1) fun iv s2 ⟨x2,H2,I2,r2,q2⟩=>?_
 refine thn (hg pins s2 σ H2 x1 x2 ov iv _ I2 r1 r2 q2) fun old s3 ⟨x3,H3,I3,r3,q3⟩=>?_
 refine thn (he pins s3 σ H3 _ I3 q3) fun v s4 ⟨x4,H4,I4,r4,q4⟩=>?_
 refine thn (hp pins s4 σ H4 x3 x4 old v _ I4 r3 r4 q4) fun new s5 ⟨x5,H5,I5,r5,q5⟩=>?_
 exact thn (hs pins s5 σ H5 x1 x2 x5 ov iv new _ I5 r1 r2 r5 q5) fun _ s6 ⟨H6,I6,q6⟩=>⟨σ,H6,I6,q6⟩
def ipI (f:Int→Int→Int):Vl:=fun x y H Q=>∃ i j,x=.int i∧y=.int j∧Q (.int (f i j)) H
theorem Am:PIp X .Add (ipI fun i j=>i+j):=by
 intro pins s σ H x y v u Q I r1 r2 h
 obtain ⟨i,j,e1,e2,q⟩:=h
 subst e1;subst e2
 obtain ⟨t,rfl⟩:=r1
 obtain ⟨t',rfl⟩:=r2
 exact iadd_int ⟨.int _,H,I.tok _,⟨_,rfl⟩,q⟩
end
section
variable {X:Cx} {pos:Pos}
def Oz (c:TT) (tb:TS):TS:=fun D σ H=>∃ W:Nat→St→Hp→Prop,(∃ m,W m σ H)∧∀ m σ H,W m σ H →
 c σ H fun b H1=>if b=true then ∃ N:St→Hp→Prop,(∀ σ' H',N σ' H'→∃ m',m'<m∧W m' σ' H')∧tb { D with nx:=N,ct:=N,bk:=D.nx } σ H1 else D.nx σ H1
theorem Vr {c:Expr} {body:List Stmt} {tc:TT} {tb:TS} (hp:PassesOwn (model X.prog X.w) X.A X.env X.xe) (hc:PT X c tc) (hb:PSs X body tb):PS X (.While c body [] pos) (Oz tc tb):=by
 intro pins s σ H D I h
 obtain ⟨W,⟨m0,w0⟩,turn⟩:=h
 refine wpAny_While (codeAny_whileLoop (fun n s'=>∃ σ' H',Inv X pins σ' H' s'∧W n σ' H') ?_ m0 ⟨σ,H,I,w0⟩)
 rintro n s1 ⟨σ1,H1,I1,w1⟩
 refine wpAny_passesOwn hp (thn (hc pins s1 σ1 H1 _ I1 (turn n σ1 H1 w1)) fun b s2 ⟨H2,I2,q2⟩=>?_)
 cases b with
 | true =>
  obtain ⟨N,hN,q2⟩:=q2
  rw [if_pos rfl]
  refine wpAny_passesOwn hp (thn (hb pins s2 σ1 H2 _ I2 q2) fun f s3 q3=>?_)
  cases f with
  | next =>
   obtain ⟨σ3,H3,I3,n3⟩:=q3
   obtain ⟨m',hm,w3⟩:=hN σ3 H3 n3
   exact ⟨m',hm,σ3,H3,I3,w3⟩
  | cont =>
   obtain ⟨σ3,H3,I3,n3⟩:=q3
   obtain ⟨m',hm,w3⟩:=hN σ3 H3 n3
   exact ⟨m',hm,σ3,H3,I3,w3⟩
  | brk=>exact q3
  | ret v=>exact q3
 | false =>
  rw [if_neg Bool.false_ne_true]
  exact wpAny_execs_nil ⟨σ1,H2,I2,q2⟩
end
structure It where
 go:Nat→Hp→Prop
 yld:Nat→Hp→V→Hp→Prop
 stop:Nat→Hp→Prop
def FpOk (X:Cx) (pins:List (Addr×Obj)) (H:Hp) (b:Addr):Prop :=
 H b=none∧b≠X.env.locals∧b ∉ X.fs∧(b∈X.ex∨X.s₀.heap.objs.size≤b)∧(∀ x c,X.env.cells.lookup x=some c→c≠b)∧∀ p∈X.pn++pins,p.1≠b
theorem Inv.fpOk {X:Cx} {pins:List (Addr×Obj)} {σ:St} {H H':Hp} {s:Shared} {b:Addr} (I:Inv X pins σ H s) (hb:s.heap.objs.size≤b) (hn:H' b=none):FpOk X pins H' b:=by
 refine ⟨hn,Nat.ne_of_gt (Nat.lt_of_lt_of_le I.lt hb),I.nofs hb,.inr (Nat.le_trans I.sz hb),fun x c e z=>?_,fun p hp z=>?_⟩
 ·obtain ⟨v,q⟩:=I.cell x c e
  exact absurd (Nat.lt_of_lt_of_le q.lt (by rw [z];exact hb)) (Nat.lt_irrefl _)
 ·exact absurd (Nat.lt_of_lt_of_le (Heap.lt_size (I.pin p hp).1) (by rw [z];exact hb)) (Nat.lt_irrefl _)
structure Turn (P:Program) (w:World) (K:PySem.W.Frag) (tg:Expr) (J:It) (fp:List Addr) (it:Addr) (tn:Nat→Heap→Prop):Prop where
 mem:it∈fp
 obj:∀ i h,tn i h→∀ b∈fp,∃ o,h.get? b=some o∧∀ v,o.data≠.cell v
 keep:∀ i h h',tn i h→(∀ b∈fp,∀ o,h.get? b=some o→h'.get? b=some o)→tn i h'
 item:∀ (X:Cx),X.prog=P→X.w=w→X.K=K→X.calm=true→∀ (i:Nat) (pins:List (Addr×Obj)) (s:Shared) (σ:St) (H:Hp) (E:Value→Shared→Prop),Inv X pins σ H s→(∀ b∈fp,FpOk X pins H b)→tn i s.heap→J.go i H →
  wpAny (model P w) X.A (pyNext (.ref it)) (fun r s1=>∃ u,r=some u ∧
   wpAny (model P w) X.A (letOwnedTupleGo tg (.ref it) u) (fun _ s2=>∃ x H',Inv X pins σ H' s2∧RelV x u∧J.yld i H x H'∧tn (i+1) s2.heap∧∀ b∈fp,H' b=none) E s1) E s
 done:∀ (X:Cx),X.prog=P→X.w=w→X.K=K→X.calm=true→∀ (i:Nat) (pins:List (Addr×Obj)) (s:Shared) (σ:St) (H:Hp) (E:Value→Shared→Prop),Inv X pins σ H s→(∀ b∈fp,FpOk X pins H b)→tn i s.heap→J.stop i H →
  wpAny (model P w) X.A (pyNext (.ref it)) (fun r s1=>r=none∧Inv X pins σ H s1) E s
 self:∀ (A:Around) (i:Nat) (s:Shared) (Q:Value→Shared→Prop) (E:Value→Shared→Prop),tn i s.heap→Q (.ref it) s→wpAny (model P w) A (pyIter (.ref it)) Q E s
abbrev TI:=St→Hp→(It→Hp→Prop)→Prop
def PIE (X:Cx) (pins:List (Addr×Obj)) (σ:St) (tg:Expr) (R:It→Hp→Prop) (itv:Value) (s2:Shared):Prop :=
 ∃ (it:Addr) (fp:List Addr) (tn:Nat→Heap→Prop) (J:It) (H':Hp),itv=.ref it∧Inv X pins σ H' s2∧Turn X.prog X.w X.K tg J fp it tn∧tn 0 s2.heap∧(∀ b∈fp,FpOk X pins H' b)∧R J H'
def PI (X:Cx) (tg iter:Expr) (wi:TI):Prop :=
 ∀ (pins:List (Addr×Obj)) (s:Shared) (σ:St) (H:Hp) (R:It→Hp→Prop),Inv X pins σ H s→wi σ H R →
  wpAny (model X.prog X.w) X.A (eval iter X.env) (fun v s1=>wpAny (model X.prog X.w) X.A (pyIter v) (PIE X pins σ tg R) X.xe s1) X.xe s
theorem go_of {M:Model} {A:Around} {E:Value→Shared→Prop} {s:Shared} {tg:Expr} {it:Addr} {u:Value} {o:Obj} {n:String} {vs:Array Value} {Q:Unit→Shared→Prop} (ho:s.heap.get? it=some o) (hc:o.cls=.type n) (hd:o.data=.fields vs)
    (hn:["enumerate","zip","dict_itemiterator","dict_reverseitemiterator","odict_iterator","itertools.zip_longest","itertools.pairwise"].contains n=false) (hQ:Q () s):wpAny M A (letOwnedTupleGo tg (.ref it) u) Q E s:=by
  unfold letOwnedTupleGo
  cases tg <;> first
    | exact wpAny_pure hQ
    | (cases u <;> first
        | exact wpAny_pure hQ
        | (refine wpAny_bind (wpAny_load ho ?_)
           rw [hc,hd]
           show wpAny M A (if (["enumerate","zip","dict_itemiterator","dict_reverseitemiterator","odict_iterator","itertools.zip_longest","itertools.pairwise"].contains n && vs[0]? == some (rawInt _))=true then _ else _) Q E s
           rw [if_neg (by intro h;rw [hn,Bool.false_and] at h;cases h)]
           exact wpAny_pure hQ))
def Itl (K:PySem.W.Frag) (a:Addr):It :=
 ⟨fun i H=>∃ xs x,SqL K H a xs∧xs[i]? = some x,fun i H x H'=>H' = H∧∀ xs,SqL K H a xs→xs[i]? = some x,fun i H=>∃ xs,SqL K H a xs∧xs.length≤i⟩
def Iv (K:PySem.W.Frag) (a:Addr):It :=
 ⟨fun i H=>∃ xs x,SqT K H a xs∧xs[i]? = some x,fun i H x H'=>H' = H∧∀ xs,SqT K H a xs→xs[i]? = some x,fun i H=>∃ xs,SqT K H a xs∧xs.length≤i⟩
def T5 (lo:Int) (n:Nat):It:=⟨fun i _=>i<n,fun i H x H'=>H' = H∧x=.int (lo+i),fun i _=>n≤i⟩
theorem turn_list {P:Program} {w:World} {K:PySem.W.Frag} {tg:Expr} (a it:Addr):Turn P w K tg (Itl K a) [it] it (fun i h=>h.IsListIter it a i) where
 mem:=by simp
 obj:=fun i h st b hb=>by
  have e:b=it:=by simpa using hb
  subst e
  obtain ⟨o,e,c,d⟩:=st
  exact ⟨o,e,fun v z=>by rw [d] at z;cases z⟩
 keep:=fun i h h' st k=>st.at fun o e=>k it (by simp) o e
 item:=by
  intro X hP hw hK hc i pins s σ H E I hf st hg
  subst hP hw hK
  obtain ⟨xs,x,hq,hx⟩:=hg
  obtain ⟨its,rv,p,hz⟩:=I.list hq
  obtain ⟨u,hu,ru⟩:=rv.get hx
  obtain ⟨f0,f1,f2,f3,f4,f5⟩:=hf it (by simp)
  refine wpAny_pyNext_list_item st p.isList (x:=u) (by simpa using hu) fun h' st' sb=>?_
  have I1:Inv X pins σ H { s with heap:=h' }:=I.turned (t':=s.toks) (fun b o hb e=>(sb.2 b hb).trans e) f0 f1 f3 f4 f5
  obtain ⟨o,e,c,d⟩:=id st'
  exact ⟨u,rfl,go_of (s:={ s with heap:=h' }) e c d (by decide) ⟨x,H,I1,ru,⟨rfl,fun ys hy=>by rw [I.list_inj hy hq];exact hx⟩,st',fun b hb=>(hf b hb).1⟩⟩
 done:=by
  intro X hP hw hK hc i pins s σ H E I hf st hg
  subst hP hw hK
  obtain ⟨xs,hq,hx⟩:=hg
  obtain ⟨its,rv,p,hz⟩:=I.list hq
  obtain ⟨f0,f1,f2,f3,f4,f5⟩:=hf it (by simp)
  have hl:=rv.length
  exact wpAny_pyNext_list_end (I.ok.hd hc) st p.isList (by simp;omega) fun h' eb=>⟨rfl,I.turned (t':=s.toks) (fun b o hb e=>eb b o hb e) f0 f1 f3 f4 f5⟩
 self:=fun _ _ _ _ _ st h=>wpAny_pyIter_listiter st h
theorem OD {P:Program} {w:World} {K:PySem.W.Frag} {tg:Expr} (a it:Addr):Turn P w K tg (Iv K a) [it] it (fun i h=>h.IsTupleIter it a i) where
 mem:=by simp
 obj:=fun i h st b hb=>by
  have e:b=it:=by simpa using hb
  subst e
  obtain ⟨o,e,c,d⟩:=st
  exact ⟨o,e,fun v z=>by rw [d] at z;cases z⟩
 keep:=fun i h h' st k=>st.at fun o e=>k it (by simp) o e
 item:=by
  intro X hP hw hK hc i pins s σ H E I hf st hg
  subst hP hw hK
  obtain ⟨xs,x,hq,hx⟩:=hg
  obtain ⟨its,rv,p,hz⟩:=I.tuple hq
  obtain ⟨u,hu,ru⟩:=rv.get hx
  obtain ⟨f0,f1,f2,f3,f4,f5⟩:=hf it (by simp)
  refine wpAny_pyNext_tuple_item st (show s.heap.IsTuple a its.toArray from p) (x:=u) (by simpa using hu) fun h' st' sb=>?_
  have I1:Inv X pins σ H { s with heap:=h' }:=I.turned (t':=s.toks) (fun b o hb e=>(sb.2 b hb).trans e) f0 f1 f3 f4 f5
  obtain ⟨o,e,c,d⟩:=id st'
  exact ⟨u,rfl,go_of (s:={ s with heap:=h' }) e c d (by decide) ⟨x,H,I1,ru,⟨rfl,fun ys hy=>by rw [I.T4 hy hq];exact hx⟩,st',fun b hb=>(hf b hb).1⟩⟩
 done:=by
  intro X hP hw hK hc i pins s σ H E I hf st hg
  subst hP hw hK
  obtain ⟨xs,hq,hx⟩:=hg
  obtain ⟨its,rv,p,hz⟩:=I.tuple hq
  obtain ⟨f0,f1,f2,f3,f4,f5⟩:=hf it (by simp)
  have hl:=rv.length
  exact wpAny_pyNext_tuple_end (I.ok.hd hc) st (show s.heap.IsTuple a its.toArray from p) (by simp;omega) fun h' eb=>⟨rfl,I.turned (t':=s.toks) (fun b o hb e=>eb b o hb e) f0 f1 f3 f4 f5⟩
 self:=fun _ _ _ _ _ st h=>wpAny_pyIter_tupleiter st h
theorem OJ {P:Program} {w:World} {K:PySem.W.Frag} {tg:Expr} (it:Addr) (lo:Int) (n:Nat):Turn P w K tg (T5 lo n) [it] it (fun i h=>IsRangeIter h it (lo+(i:Nat)*1) ((n:Int) - (i:Nat)) 1) where
 mem:=by simp
 obj:=fun i h st b hb=>by
  have e:b=it:=by simpa using hb
  subst e
  exact ⟨_,st,fun v z=>by
   have z':Data.fields _=Data.cell v:=z
   cases z'⟩
 keep:=fun i h h' st k=>k it (by simp) _ st
 item:=by
  intro X hP hw hK hc i pins s σ H E I hf st hg
  subst hP hw hK
  obtain ⟨f0,f1,f2,f3,f4,f5⟩:=hf it (by simp)
  have W:=Walks.range (prog:=X.prog) (w:=X.w) (I.ok.hd hc) it lo 1 n
  refine W.item i s _ _ hg st fun v h' tk hv st' kk=>?_
  obtain ⟨t,rfl⟩:=hv
  have I1:Inv X pins σ H { s with heap:=h',toks:=tk }:=I.turned (fun b o hb e=>kk b o (by simpa using hb) e) f0 f1 f3 f4 f5
  refine ⟨_,rfl,go_of (s:={ s with heap:=h',toks:=tk }) (n:="range_iterator") st' rfl rfl (by decide) ⟨.int (lo+i),H,I1,⟨t,?_⟩,⟨rfl,rfl⟩,st',fun b hb=>(hf b hb).1⟩⟩
  rw [Int.mul_one]
 done:=by
  intro X hP hw hK hc i pins s σ H E I hf st hg
  subst hP hw hK
  obtain ⟨f0,f1,f2,f3,f4,f5⟩:=hf it (by simp)
  exact wpAny_pyNext_range_end (I.ok.hd hc) st (by have:n≤i:=hg;omega) fun h' eb=>⟨rfl,I.turned (t':=s.toks) (fun b o hb e=>eb b o hb e) f0 f1 f3 f4 f5⟩
 self:=fun _ _ _ _ _ st h=>wpAny_pyIter_rangeiter st h
end L2
namespace L2
open PySem PySem.Spec PyProof.Rows
section
variable {X:Cx} {tg:Expr}
theorem Ln {pins:List (Addr×Obj)} {σ:St} {H:Hp} {s:Shared} {R:It→Hp→Prop} {E:Value→Shared→Prop} {lo hi:Int} {t u v:Tok} {tk:Nat} (I:Inv X pins σ H s) (h1:-(2 ^ 62)≤lo) (h2:lo<2 ^ 62) (h3:-(2 ^ 62)≤hi) (h4:hi<2 ^ 62)
  (q:R (T5 lo (hi - lo).toNat) H):wpAny (model X.prog X.w) X.A (pyIter (.ref s.heap.objs.size)) (PIE X pins σ tg R) E { s with heap:=s.heap.push { cls:=.type "range",data:=.fields #[.int lo t,.int hi u,.int 1 v] },toks:=tk }:=by
 refine wpAny_pyIter_range (IsRange.new ..) (small_one h1 h2 h3 h4) ?_
 have I1:Inv X pins σ H { s with heap:=s.heap.push { cls:=.type "range",data:=.fields #[.int lo t,.int hi u,.int 1 v] },toks:=tk }:=I.kept fun b o e=>Heap.get?_push_of_some _ e
 refine ⟨(s.heap.push { cls:=.type "range",data:=.fields #[.int lo t,.int hi u,.int 1 v] }).objs.size,[(s.heap.push { cls:=.type "range",data:=.fields #[.int lo t,.int hi u,.int 1 v] }).objs.size],_,_,H,rfl,
  I1.kept (t':=tk) fun b o e=>Heap.get?_push_of_some _ e,OJ _ lo (hi - lo).toNat,?_,fun b hb=>?_,q⟩
 ·have e1:lo+((0:Nat):Int)*1=lo:=by simp
  have e2:(((hi - lo).toNat:Nat):Int) - ((0:Nat):Int)=Builtin.Range.rangeSize lo hi 1:=by rw [rangeSize_one];split <;> omega
  show IsRangeIter _ _ (lo+((0:Nat):Int)*1) ((((hi - lo).toNat:Nat):Int) - ((0:Nat):Int)) 1
  rw [e1,e2]
  exact Heap.get?_push_size _ rfl
 ·have e:b=(s.heap.push { cls:=.type "range",data:=.fields #[.int lo t,.int hi u,.int 1 v] }).objs.size:=by simpa using hb
  subst e
  exact I1.fpOk (Nat.le_refl _) (I1.hok.fresh (Nat.le_refl _))
def Iw (ta:TA):TI:=fun σ H R=>ta σ H fun vs H1=>∃ j:Int,vs=[.int j]∧-(2 ^ 62)≤j∧j<2 ^ 62∧R (T5 0 j.toNat) H1
def QV (ta:TA):TI:=fun σ H R=>ta σ H fun vs H1=>∃ i j:Int,vs=[.int i,.int j]∧(-(2 ^ 62)≤i∧i<2 ^ 62∧-(2 ^ 62)≤j∧j<2 ^ 62)∧R (T5 i (j - i).toNat) H1
theorem T6 {a:Expr} {ta:TA} {p pos:Pos} (hg:Gl X "range") (hm:X.mg "range" = none) (ha:PA X [a] ta) (hs:starEach [a] X.env=[(false,eval a X.env)]:=by rfl):PI X tg (.Call (.Name "range" p) [a] [] pos) (Iw ta):=by
 intro pins s σ H R I h
 refine Call_ (ld_blt I hg hm boot_range (PyProof.Rows.callWith_type1 (thn (ha pos pins s σ H _ I h) fun us s1 ⟨vs,H1,I1,r1,q1⟩=>?_) hs rfl))
 obtain ⟨j,e,q1,q2,q⟩:=q1
 subst e
 cases r1 with
 | cons r rr =>
  cases rr
  obtain ⟨t,rfl⟩:=r
  exact call_range_1 (Ln I1 (by omega) (by omega) q1 q2 (by simpa using q))
theorem T7 {a b:Expr} {ta:TA} {p pos:Pos} (hg:Gl X "range") (hm:X.mg "range" = none) (ha:PA X [a,b] ta) (hs:starEach [a,b] X.env=[(false,eval a X.env),(false,eval b X.env)]:=by rfl) (hs2:starEach [b] X.env=[(false,eval b X.env)]:=by rfl) :
  PI X tg (.Call (.Name "range" p) [a,b] [] pos) (QV ta):=by
 intro pins s σ H R I h
 refine Call_ (ld_blt I hg hm boot_range (PyProof.Rows.callWith_type1 (thn (ha pos pins s σ H _ I h) fun us s1 ⟨vs,H1,I1,r1,q1⟩=>?_) (by rw [hs,hs2]) (by rw [hs2];rfl)))
 obtain ⟨i,j,e,⟨q1,q2,q3,q4⟩,q⟩:=q1
 subst e
 cases r1 with
 | cons r rr =>
  cases rr with
  | cons r' rr =>
   cases rr
   obtain ⟨t,rfl⟩:=r
   obtain ⟨t',rfl⟩:=r'
   exact call_range_2 (Ln I1 q1 q2 q3 q4 q)
def tFor (wi:TI) (g:TG) (tb:TS):TS:=fun D σ H=>wi σ H fun J H1=>∃ W:Nat→Nat→St→Hp→Prop,(∃ m,W 0 m σ H1)∧∀ i m σ H,W i m σ H →
 (J.stop i H∧D.nx σ H)∨(J.go i H∧∃ N:St→Hp→Prop,(∀ σ' H',N σ' H'→∃ m',m'<m∧W (i+1) m' σ' H')∧∀ x H',J.yld i H x H'→g x σ H' fun σ2 H2=>tb { D with nx:=N,ct:=N,bk:=D.nx } σ2 H2)
def pinsAt (fp:List Addr) (h:Heap):List (Addr×Obj):=fp.filterMap fun b=>(h.get? b).map fun o=>(b,o)
theorem mem_pinsAt {fp:List Addr} {h:Heap} {b:Addr} {o:Obj} (hb:b∈fp) (e:h.get? b=some o):(b,o)∈pinsAt fp h:=List.mem_filterMap.mpr ⟨b,hb,by rw [e];rfl⟩
theorem of_pinsAt {fp:List Addr} {h:Heap} {p:Addr×Obj} (hp:p∈pinsAt fp h):p.1∈fp∧h.get? p.1=some p.2:=by
 obtain ⟨b,hb,e⟩:=List.mem_filterMap.mp hp
 cases q:h.get? b with
 | none=>rw [q] at e;cases e
 | some o =>
  rw [q] at e
  have e':(b,o)=p:=Option.some.inj e
  subst e'
  exact ⟨hb,q⟩
theorem Inv.pinned {pins:List (Addr×Obj)} {σ:St} {H:Hp} {s:Shared} {fp:List Addr} (I:Inv X pins σ H s) (hf:∀ b∈fp,FpOk X pins H b) (ho:∀ b∈fp,∃ o,s.heap.get? b=some o∧∀ v,o.data≠.cell v):Inv X (pins++pinsAt fp s.heap) σ H s :=
 I.pins_of fun p hp=>(List.mem_append.mp hp).elim (fun z=>I.pin p (List.mem_append_right _ z)) fun z=>by
  obtain ⟨hb,e⟩:=of_pinsAt z
  obtain ⟨f0,f1,f2,_⟩:=hf p.1 hb
  obtain ⟨o,e',d⟩:=ho p.1 hb
  rw [e] at e';cases e'
  exact ⟨e,f0,f1,f2,d⟩
theorem Inv.unpinned {pins pl:List (Addr×Obj)} {σ:St} {H:Hp} {s:Shared} (I:Inv X (pins++pl) σ H s):Inv X pins σ H s:=I.pins_of fun p hp=>I.pin p (List.mem_append_right _ (List.mem_append_left _ hp))
theorem ps_for {iter:Expr} {body:List Stmt} {wi:TI} {g:TG} {tb:TS} {pos:Pos} (hp:PassesOwn (model X.prog X.w) X.A X.env X.xe) (hc:X.calm=true) (hi:PI X tg iter wi) (hg:PG X tg g) (hb:PSs X body tb)
  (hs:∀ x,foldedSetIterable iter X.env x=pure x:=by intro _;rfl):PS X (.For tg iter body [] pos) (tFor wi g tb):=by
 intro pins s σ H D I h
 refine wpAny_For (thn (hi pins s σ H _ I h) fun v s1 h1=>thn h1 fun itv s2 h2=>?_) hs
 obtain ⟨it,fp,tn,J,H2,e,I2,T,st2,f2,W,⟨m0,w0⟩,turn⟩:=h2
 subst e
 -- what stays true of the iterator's objects through the loop
 have stat:∀ {H':Hp},(∀ b∈fp,H' b=none)→∀ b∈fp,FpOk X pins H' b:=fun hn b hb=>⟨hn b hb,(f2 b hb).2⟩
 refine codeAny_forLoop_any (fun n s'=>∃ i σ' H',Inv X pins σ' H' s'∧tn i s'.heap∧(∀ b∈fp,H' b=none)∧W i n σ' H') ?_ m0 ⟨0,σ,H2,I2,st2,fun b hb=>(f2 b hb).1,w0⟩
 rintro n s3 ⟨i,σ3,H3,I3,st3,fr3,w3⟩
 rcases turn i n σ3 H3 w3 with ⟨stop,qn⟩ | ⟨go,N,hN,step⟩
 ·refine wpAny_passesOwn hp (thn (T.done X rfl rfl rfl hc i pins s3 σ3 H3 X.xe I3 (stat fr3) st3 stop) fun r s4 ⟨hr,I4⟩=>?_)
  subst hr
  exact wpAny_execs_nil ⟨σ3,H3,I4,qn⟩
 ·refine wpAny_passesOwn hp (thn (T.item X rfl rfl rfl hc i pins s3 σ3 H3 X.xe I3 (stat fr3) st3 go) fun r s4 ⟨u,hr,h4⟩=>?_)
  subst hr
  refine wpAny_passesOwn hp (thn h4 fun _ s5 ⟨x,H5,I5,r5,y5,st5,fr5⟩=>?_)
  have I5':=I5.pinned (stat fr5) (T.obj _ _ st5)
  refine wpAny_passesOwn hp (thn (hg _ s5 σ3 H5 x u _ I5' r5 (step x H5 y5)) fun _ s6 ⟨σ6,H6,I6,q6⟩=>?_)
  refine wpAny_passesOwn hp (thn (hb _ s6 σ6 H6 _ I6 q6) fun f s7 q7=>?_)
  have again:∀ {σ7:St} {H7:Hp},Inv X (pins++pinsAt fp s5.heap) σ7 H7 s7→N σ7 H7→∃ m,m<n∧∃ i σ' H',Inv X pins σ' H' s7∧tn i s7.heap∧(∀ b∈fp,H' b=none)∧W i m σ' H':=fun {σ7 H7} I7 n7=>by
   obtain ⟨m',hm,w7⟩:=hN σ7 H7 n7
   refine ⟨m',hm,i+1,σ7,H7,I7.unpinned,T.keep _ _ _ st5 fun b hb o e=>(I7.pin (b,o) (List.mem_append_right _ (List.mem_append_right _ (mem_pinsAt hb e)))).1,fun b hb=>?_,w7⟩
   obtain ⟨o,e,d⟩:=T.obj _ _ st5 b hb
   exact (I7.pin (b,o) (List.mem_append_right _ (List.mem_append_right _ (mem_pinsAt hb e)))).2.1
  cases f with
  | next=>obtain ⟨σ7,H7,I7,n7⟩:=q7;exact again I7 n7
  | cont=>obtain ⟨σ7,H7,I7,n7⟩:=q7;exact again I7 n7
  | brk=>obtain ⟨σ7,H7,I7,q7⟩:=q7;exact ⟨σ7,H7,I7.unpinned,q7⟩
  | ret v=>obtain ⟨x7,σ7,H7,I7,r7,q7⟩:=q7;exact ⟨x7,σ7,H7,I7.unpinned,r7,q7⟩
end
theorem for_list {K:PySem.W.Frag} {a:Addr} {xs:List V} {g:TG} {tb:TS} {D:Ends} {σ:St} {H:Hp} (Pv:Nat→St→Hp→Prop) (h0:Pv 0 σ H) (hl:∀ i σ H,i≤xs.length→Pv i σ H→SqL K H a xs)
  (hs:∀ i x σ H,xs[i]? = some x→Pv i σ H→g x σ H fun σ2 H2=>tb { D with nx:=Pv (i+1),ct:=Pv (i+1),bk:=D.nx } σ2 H2) (hd:∀ σ H,Pv xs.length σ H→D.nx σ H) :
  ∃ W:Nat→Nat→St→Hp→Prop,(∃ m,W 0 m σ H)∧∀ i m σ H,W i m σ H →
   ((Itl K a).stop i H∧D.nx σ H)∨((Itl K a).go i H∧∃ N:St→Hp→Prop,(∀ σ' H',N σ' H'→∃ m',m'<m∧W (i+1) m' σ' H')∧∀ x H',(Itl K a).yld i H x H'→g x σ H' fun σ2 H2=>tb { D with nx:=N,ct:=N,bk:=D.nx } σ2 H2):=by
 refine ⟨fun i m σ H=>m=xs.length - i∧i≤xs.length∧Pv i σ H,⟨xs.length,by simp,Nat.zero_le _,h0⟩,?_⟩
 rintro i m σ H ⟨rfl,hi,p⟩
 have q:=hl i σ H hi p
 by_cases hlt:i<xs.length
 ·refine .inr ⟨⟨xs,xs[i],q,by simp [hlt]⟩,Pv (i+1),fun σ' H' p'=>⟨xs.length - (i+1),by omega,rfl,hlt,p'⟩,fun x H' y=>?_⟩
  obtain ⟨e,y⟩:=y
  subst e
  exact hs i x σ _ (y xs q) p
 ·have e:i=xs.length:=by omega
  subst e
  exact .inl ⟨⟨xs,q,Nat.le_refl _⟩,hd σ H p⟩
theorem JR {K:PySem.W.Frag} {a:Addr} {xs:List V} {g:TG} {tb:TS} {D:Ends} {σ:St} {H:Hp} (Pv:Nat→St→Hp→Prop) (h0:Pv 0 σ H) (hl:∀ i σ H,i≤xs.length→Pv i σ H→SqT K H a xs)
  (hs:∀ i x σ H,xs[i]? = some x→Pv i σ H→g x σ H fun σ2 H2=>tb { D with nx:=Pv (i+1),ct:=Pv (i+1),bk:=D.nx } σ2 H2) (hd:∀ σ H,Pv xs.length σ H→D.nx σ H) :
  ∃ W:Nat→Nat→St→Hp→Prop,(∃ m,W 0 m σ H)∧∀ i m σ H,W i m σ H →
   ((Iv K a).stop i H∧D.nx σ H)∨((Iv K a).go i H∧∃ N:St→Hp→Prop,(∀ σ' H',N σ' H'→∃ m',m'<m∧W (i+1) m' σ' H')∧∀ x H',(Iv K a).yld i H x H'→g x σ H' fun σ2 H2=>tb { D with nx:=N,ct:=N,bk:=D.nx } σ2 H2):=by
 refine ⟨fun i m σ H=>m=xs.length - i∧i≤xs.length∧Pv i σ H,⟨xs.length,by simp,Nat.zero_le _,h0⟩,?_⟩
 rintro i m σ H ⟨rfl,hi,p⟩
 have q:=hl i σ H hi p
 by_cases hlt:i<xs.length
 ·refine .inr ⟨⟨xs,xs[i],q,by simp [hlt]⟩,Pv (i+1),fun σ' H' p'=>⟨xs.length - (i+1),by omega,rfl,hlt,p'⟩,fun x H' y=>?_⟩
  obtain ⟨e,y⟩:=y
  subst e
  exact hs i x σ _ (y xs q) p
 ·have e:i=xs.length:=by omega
  subst e
  exact .inl ⟨⟨xs,q,Nat.le_refl _⟩,hd σ H p⟩
theorem T8 {lo:Int} {n:Nat} {g:TG} {tb:TS} {D:Ends} {σ:St} {H:Hp} (Pv:Nat→St→Hp→Prop) (h0:Pv 0 σ H)
  (hs:∀ i σ H,i<n→Pv i σ H→g (.int (lo+i)) σ H fun σ2 H2=>tb { D with nx:=Pv (i+1),ct:=Pv (i+1),bk:=D.nx } σ2 H2) (hd:∀ σ H,Pv n σ H→D.nx σ H) :
  ∃ W:Nat→Nat→St→Hp→Prop,(∃ m,W 0 m σ H)∧∀ i m σ H,W i m σ H →
   ((T5 lo n).stop i H∧D.nx σ H)∨((T5 lo n).go i H∧∃ N:St→Hp→Prop,(∀ σ' H',N σ' H'→∃ m',m'<m∧W (i+1) m' σ' H')∧∀ x H',(T5 lo n).yld i H x H'→g x σ H' fun σ2 H2=>tb { D with nx:=N,ct:=N,bk:=D.nx } σ2 H2):=by
 refine ⟨fun i m σ H=>m=n - i∧i≤n∧Pv i σ H,⟨n,by simp,Nat.zero_le _,h0⟩,?_⟩
 rintro i m σ H ⟨rfl,hi,p⟩
 by_cases hlt:i<n
 ·refine .inr ⟨hlt,Pv (i+1),fun σ' H' p'=>⟨n - (i+1),by omega,rfl,hlt,p'⟩,fun x H' y=>?_⟩
  obtain ⟨e,y⟩:=y
  subst e y
  exact hs i σ _ hlt p
 ·have e:i=n:=by omega
  subst e
  exact .inl ⟨Nat.le_refl _,hd σ H p⟩
end L2
namespace L2
open PySem PySem.Spec PyProof.Rows
abbrev R2:=V→V→Hp→VK→Prop
def OpR (X:Cx) (f:Value→Value→Sem Value) (r:R2):Prop :=
 ∀ (pins:List (Addr×Obj)) (s:Shared) (σ:St) (H:Hp) (x y:V) (v u:Value) (Q:VK),Inv X pins σ H s→RelV x v→RelV y u→r x y H Q →
  wpAny (model X.prog X.w) X.A (f v u) (EP X pins σ Q) X.xe s
def UnR (X:Cx) (f:Value→Sem Value) (r:V→Hp→VK→Prop):Prop :=
 ∀ (pins:List (Addr×Obj)) (s:Shared) (σ:St) (H:Hp) (x:V) (v:Value) (Q:VK),Inv X pins σ H s→RelV x v→r x H Q →
  wpAny (model X.prog X.w) X.A (f v) (EP X pins σ Q) X.xe s
def CallR (X:Cx) (f:Value) (r:List V→Hp→VK→Prop):Prop :=
 ∀ (pins:List (Addr×Obj)) (s:Shared) (σ:St) (H:Hp) (xs:List V) (us:List Value) (Q:VK),Inv X pins σ H s→Vals xs us→r xs H Q →
  wpAny (model X.prog X.w) X.A (call f us) (EP X pins σ Q) X.xe s
def tOp (r:R2) (ta tb:TE):TE:=fun σ H Q=>ta σ H fun x H1=>tb σ H1 fun y H2=>r x y H2 Q
def tUn (r:V→Hp→VK→Prop) (ta:TE):TE:=fun σ H Q=>ta σ H fun x H1=>r x H1 Q
def rI (C:Int→Int→Prop) (g:Int→Int→V):R2:=fun x y H Q=>∃ i j,x=.int i∧y=.int j∧C i j∧Q (g i j) H
def rI0 (g:Int→Int→V):R2:=fun x y H Q=>∃ i j,x=.int i∧y=.int j∧Q (g i j) H
def rU (g:Int→V):V→Hp→VK→Prop:=fun x H Q=>∃ i,x=.int i∧Q (g i) H
section
variable {X:Cx} {a b c:Expr} {ta tb tc:TE} {pos:Pos}
theorem binT (ha:PE X a ta) (hb:PE X b tb) {pins:List (Addr×Obj)} {s:Shared} {σ:St} {H:Hp} {R:V→V→Hp→Prop} (I:Inv X pins σ H s)
  (h:ta σ H fun x H1=>tb σ H1 fun y H2=>R x y H2) {Q:Value→Shared→Prop} {f:Value→Value→Sem Value}
  (hf:∀ v u s2 x y H2,Inv X pins σ H2 s2→RelV x v→RelV y u→R x y H2→wpAny (model X.prog X.w) X.A (f v u) Q X.xe s2) :
  wpAny (model X.prog X.w) X.A (eval a X.env) (fun v s₁=>wpAny (model X.prog X.w) X.A (eval b X.env) (fun u s₂=>wpAny (model X.prog X.w) X.A (f v u) Q X.xe s₂) X.xe s₁) X.xe s:=by
 refine thn (ha pins s σ H _ I h) fun v s1 ⟨x,H1,I1,r1,q1⟩=>?_
 refine thn (hb pins s1 σ H1 _ I1 q1) fun u s2 ⟨y,H2,I2,r2,q2⟩=>?_
 exact hf v u s2 x y H2 I2 r1 r2 q2
theorem pe_op {op:Operator} {r:R2} (ho:OpR X (binaryOp op) r) (ha:PE X a ta) (hb:PE X b tb):PE X (.BinOp a op b pos) (tOp r ta tb):=by
 intro pins s σ H Q I h
 exact wpAny_BinOp (binT ha hb I h fun v u s2 x y H2 I2 rx ry q=>ho pins s2 σ H2 x y v u Q I2 rx ry q)
theorem acr {op:UnaryOp} {r:V→Hp→VK→Prop} (ho:UnR X (unaryOp op) r) (ha:PE X a ta):PE X (.UnaryOp op a pos) (tUn r ta):=by
 intro pins s σ H Q I h
 exact UnaryOp_ (thn (ha pins s σ H _ I h) fun v s1 ⟨x,H1,I1,r1,q1⟩=>ho pins s1 σ H1 x v Q I1 r1 q1)
theorem opI {f:Value→Value→Sem Value} {C:Int→Int→Prop} {g:Int→Int→Int}
  (rule:∀ (i j:Int) (t u:Tok) (s:Shared) (Q:Value→Shared→Prop) (E:Value→Shared→Prop),C i j→Q (.int (g i j) s.toks) { s with toks:=s.toks+1 }→wpAny (model X.prog X.w) X.A (f (.int i t) (.int j u)) Q E s) :
  OpR X f (rI C fun i j=>.int (g i j)):=by
 intro pins s σ H x y v u Q I rx ry h
 obtain ⟨i,j,rfl,rfl,hc,q⟩:=h
 obtain ⟨t,rfl⟩:=rx
 obtain ⟨t',rfl⟩:=ry
 exact rule i j t t' s _ _ hc ⟨.int (g i j),H,I.tok _,⟨_,rfl⟩,q⟩
theorem opI0 {f:Value→Value→Sem Value} {g:Int→Int→Int}
  (rule:∀ (i j:Int) (t u:Tok) (s:Shared) (Q:Value→Shared→Prop) (E:Value→Shared→Prop),Q (.int (g i j) s.toks) { s with toks:=s.toks+1 }→wpAny (model X.prog X.w) X.A (f (.int i t) (.int j u)) Q E s) :
  OpR X f (rI0 fun i j=>.int (g i j)):=by
 intro pins s σ H x y v u Q I rx ry h
 obtain ⟨i,j,rfl,rfl,q⟩:=h
 obtain ⟨t,rfl⟩:=rx
 obtain ⟨t',rfl⟩:=ry
 exact rule i j t t' s _ _ ⟨.int (g i j),H,I.tok _,⟨_,rfl⟩,q⟩
theorem opB0 {f:Value→Value→Sem Value} {g:Int→Int→Bool}
  (rule:∀ (i j:Int) (t u:Tok) (s:Shared) (Q:Value→Shared→Prop) (E:Value→Shared→Prop),Q (.bool (g i j)) s→wpAny (model X.prog X.w) X.A (f (.int i t) (.int j u)) Q E s) :
  OpR X f (rI0 fun i j=>.bl (g i j)):=by
 intro pins s σ H x y v u Q I rx ry h
 obtain ⟨i,j,rfl,rfl,q⟩:=h
 obtain ⟨t,rfl⟩:=rx
 obtain ⟨t',rfl⟩:=ry
 exact rule i j t t' s _ _ ⟨.bl (g i j),H,I,rfl,q⟩
def adO (i j:Int):Prop:=0≤j∧j≤1000000∧i.natAbs<2 ^ 64
def CMul (i j:Int):Prop:=(-(2 ^ 64)<i∧i<2 ^ 64)∨(-(2 ^ 64)<j∧j<2 ^ 64)
theorem CMul.ok {i j:Int} (h:CMul i j):IntMulOk i j:=by
 rcases h with ⟨h1,h2⟩ | ⟨h1,h2⟩
 ·exact .of_left (intBits_le_64 h1 h2)
 ·exact .of_right (intBits_le_64 h1 h2)
theorem op_add:OpR X (binaryOp .Add) (rI0 fun i j=>.int (i+j)):=opI0 fun _ _ _ _ _ _ _ q=>add_int q
theorem op_sub:OpR X (binaryOp .Sub) (rI0 fun i j=>.int (i - j)):=opI0 fun _ _ _ _ _ _ _ q=>sub_int q
theorem xR:OpR X (binaryOp .Mult) (rI CMul fun i j=>.int (i*j)):=opI fun _ _ _ _ _ _ _ hc q=>mul_int q hc.ok
theorem op_mod:OpR X (binaryOp .Mod) (rI (fun _ j=>0<j) fun i j=>.int (i % j)):=opI fun i j _ _ _ _ _ hc q=>by
 have h1:(0:Int)<j:=hc
 exact mod_int' (by omega) (by rw [Int.fmod_eq_emod_of_nonneg i (by omega)];exact q)
theorem aa2:OpR X (binaryOp .Pow) (rI adO fun i j=>.int (i ^ j.toNat)):=opI fun _ _ _ _ _ _ _ hc q=>pow_int_small hc.1 hc.2.1 hc.2.2 q
theorem unI {f:Value→Sem Value} {g:Int→Int}
  (rule:∀ (i:Int) (t:Tok) (s:Shared) (Q:Value→Shared→Prop) (E:Value→Shared→Prop),Q (.int (g i) s.toks) { s with toks:=s.toks+1 }→wpAny (model X.prog X.w) X.A (f (.int i t)) Q E s) :
  UnR X f (rU fun i=>.int (g i)):=by
 intro pins s σ H x v Q I rx h
 obtain ⟨i,rfl,q⟩:=h
 obtain ⟨t,rfl⟩:=rx
 exact rule i t s _ _ ⟨.int (g i),H,I.tok _,⟨_,rfl⟩,q⟩
theorem O1:UnR X (unaryOp .USub) (rU fun i=>.int (-i)):=unI fun _ _ _ _ _ q=>neg_int q
end
def scal:V→V→Bool
 | .non,.non=>true | .non,.int _=>true | .int _,.non=>true | .non,.bl _=>true | .bl _,.non=>true | .non,.str _=>true | .str _,.non=>true
 | .int _,.int _=>true | .bl _,.bl _=>true | .str _,.str _=>true | .byt _,.byt _=>true
 | .int _,.str _=>true | .str _,.int _=>true | .bl _,.str _=>true | .str _,.bl _=>true
 | _,_=>false
def rEq:R2:=fun x y H Q=>scal x y=true∧Q (.bl (decide (x=y))) H
def rNe:R2:=fun x y H Q=>scal x y=true∧Q (.bl (!decide (x=y))) H
theorem dec_int {i j:Int}:decide (V.int i=V.int j)=(i == j):=by
 rw [Bool.eq_iff_iff]
 simp
theorem dec_bl {i j:Bool}:decide (V.bl i=V.bl j)=(i == j):=by
 rw [Bool.eq_iff_iff]
 simp
theorem dec_str {i j:Str}:decide (V.str i=V.str j)=(i == j):=by
 rw [Bool.eq_iff_iff]
 simp
theorem dec_byt {i j:Array UInt8}:decide (V.byt i=V.byt j)=(i.toList == j.toList):=by
 rw [Bool.eq_iff_iff]
 cases i
 cases j
 simp
section
variable {X:Cx} {a b c:Expr} {ta tb tc:TE} {pos:Pos}
theorem fin_bl {pins:List (Addr×Obj)} {σ:St} {H:Hp} {s:Shared} {Q:VK} {k k':Bool} (I:Inv X pins σ H s) (q:Q (.bl k) H) (e:k=k'):EP X pins σ Q (.bool k') s:=by
 subst e
 exact ⟨.bl k,H,I,rfl,q⟩
theorem op_eq:OpR X (compareOp .Eq) rEq:=by
 intro pins s σ H x y v u Q I rx ry h
 obtain ⟨hs,q⟩:=h
 cases x with
 | non =>
  cases rx
  cases y with
  | non=>cases ry;exact PySem.EqNone.eq_none_none (fin_bl I q (by simp))
  | bl j=>cases ry;exact PySem.EqNone.eq_none_bool (fin_bl I q (by simp))
  | int j=>obtain ⟨t',rfl⟩:=ry;exact PySem.EqNone.eq_none_int (fin_bl I q (by simp))
  | str j=>obtain ⟨t',rfl⟩:=ry;exact PySem.EqNone.eq_none_str (fin_bl I q (by simp))
  | _=>exact absurd (show false=true from hs) Bool.false_ne_true
 | bl i =>
  cases rx
  cases y with
  | non=>cases ry;exact PySem.EqNone.eq_bool_none (fin_bl I q (by simp))
  | bl j=>cases ry;exact eq_bool (fin_bl I q dec_bl)
  | str j=>obtain ⟨t',rfl⟩:=ry;exact PySem.EqMixed.eq_bool_str (fin_bl I q (by simp))
  | _=>exact absurd (show false=true from hs) Bool.false_ne_true
 | int i =>
  obtain ⟨t,rfl⟩:=rx
  cases y with
  | non=>cases ry;exact PySem.EqNone.eq_int_none (fin_bl I q (by simp))
  | int j=>obtain ⟨t',rfl⟩:=ry;exact eq_int (fin_bl I q dec_int)
  | str j=>obtain ⟨t',rfl⟩:=ry;exact PySem.EqMixed.eq_int_str (fin_bl I q (by simp))
  | _=>exact absurd (show false=true from hs) Bool.false_ne_true
 | str i =>
  obtain ⟨t,rfl⟩:=rx
  cases y with
  | non=>cases ry;exact PySem.EqNone.eq_str_none (fin_bl I q (by simp))
  | bl j=>cases ry;exact PySem.EqMixed.eq_str_bool (fin_bl I q (by simp))
  | int j=>obtain ⟨t',rfl⟩:=ry;exact PySem.EqMixed.eq_str_int (fin_bl I q (by simp))
  | str j=>obtain ⟨t',rfl⟩:=ry;exact eq_str (fin_bl I q dec_str)
  | _=>exact absurd (show false=true from hs) Bool.false_ne_true
 | byt i =>
  obtain ⟨t,rfl⟩:=rx
  cases y with
  | byt j=>obtain ⟨t',rfl⟩:=ry;exact PySem.W.eq_bytes (fin_bl I q dec_byt)
  | _=>exact absurd (show false=true from hs) Bool.false_ne_true
 | _=>cases y <;> exact absurd (show false=true from hs) Bool.false_ne_true
theorem op_ne:OpR X (compareOp .NotEq) rNe:=by
 intro pins s σ H x y v u Q I rx ry h
 obtain ⟨hs,q⟩:=h
 cases x with
 | non =>
  cases rx
  cases y with
  | non=>cases ry;exact PySem.EqNone.ne_none_none (fin_bl I q (by simp))
  | bl j=>cases ry;exact PySem.EqNone.ne_none_bool (fin_bl I q (by simp))
  | int j=>obtain ⟨t',rfl⟩:=ry;exact PySem.EqNone.ne_none_int (fin_bl I q (by simp))
  | str j=>obtain ⟨t',rfl⟩:=ry;exact PySem.EqNone.ne_none_str (fin_bl I q (by simp))
  | _=>exact absurd (show false=true from hs) Bool.false_ne_true
 | bl i =>
  cases rx
  cases y with
  | non=>cases ry;exact PySem.EqNone.ne_bool_none (fin_bl I q (by simp))
  | bl j=>cases ry;exact ne_bool (fin_bl I q (congrArg not dec_bl))
  | str j=>obtain ⟨t',rfl⟩:=ry;exact PySem.EqMixed.ne_bool_str (fin_bl I q (by simp))
  | _=>exact absurd (show false=true from hs) Bool.false_ne_true
 | int i =>
  obtain ⟨t,rfl⟩:=rx
  cases y with
  | non=>cases ry;exact PySem.EqNone.ne_int_none (fin_bl I q (by simp))
  | int j=>obtain ⟨t',rfl⟩:=ry;exact ne_int (fin_bl I q (congrArg not dec_int))
  | str j=>obtain ⟨t',rfl⟩:=ry;exact PySem.EqMixed.ne_int_str (fin_bl I q (by simp))
  | _=>exact absurd (show false=true from hs) Bool.false_ne_true
 | str i =>
  obtain ⟨t,rfl⟩:=rx
  cases y with
  | non=>cases ry;exact PySem.EqNone.ne_str_none (fin_bl I q (by simp))
  | bl j=>cases ry;exact PySem.EqMixed.ne_str_bool (fin_bl I q (by simp))
  | int j=>obtain ⟨t',rfl⟩:=ry;exact PySem.EqMixed.ne_str_int (fin_bl I q (by simp))
  | str j=>obtain ⟨t',rfl⟩:=ry;exact ne_str (fin_bl I q (congrArg not dec_str))
  | _=>exact absurd (show false=true from hs) Bool.false_ne_true
 | byt i =>
  obtain ⟨t,rfl⟩:=rx
  cases y with
  | byt j=>obtain ⟨t',rfl⟩:=ry;exact PySem.W.ne_bytes (fin_bl I q (congrArg not dec_byt))
  | _=>exact absurd (show false=true from hs) Bool.false_ne_true
 | _=>cases y <;> exact absurd (show false=true from hs) Bool.false_ne_true
theorem u0:OpR X (compareOp .Lt) (rI0 fun i j=>.bl (decide (i<j))):=opB0 fun _ _ _ _ _ _ _ q=>lt_int q
theorem acs:OpR X (compareOp .LtE) (rI0 fun i j=>.bl (decide (i≤j))):=opB0 fun _ _ _ _ _ _ _ q=>le_int q
theorem oX:OpR X (compareOp .Gt) (rI0 fun i j=>.bl (decide (j<i))):=opB0 fun _ _ _ _ _ _ _ q=>gt_int q
theorem op_ge:OpR X (compareOp .GtE) (rI0 fun i j=>.bl (decide (j≤i))):=opB0 fun _ _ _ _ _ _ _ q=>ge_int q
theorem aa3:OpR X (compareOp .Is) (fun x y H Q=>y=.non∧Q (.bl (decide (x=.non))) H):=by
 intro pins s σ H x y v u Q I rx ry h
 obtain ⟨rfl,q⟩:=h
 cases ry
 refine is_none_gen (fin_bl I q ?_)
 cases x <;> first
  | (cases rx;rfl)
  | (obtain ⟨t,rfl⟩:=rx;rfl)
theorem YS:OpR X (compareOp .IsNot) (fun x y H Q=>y=.non∧Q (.bl (!decide (x=.non))) H):=by
 intro pins s σ H x y v u Q I rx ry h
 obtain ⟨rfl,q⟩:=h
 cases ry
 refine isnot_none_gen (fin_bl I q ?_)
 cases x <;> first
  | (cases rx;rfl)
  | (obtain ⟨t,rfl⟩:=rx;rfl)
theorem nomark (b:Expr) {op:CmpOp} (h:op≠.In:=by decide) (h2:op≠.NotIn:=by decide):behindInMarks op b=false:=by
 have e1:(op == CmpOp.In)=false:=by cases op <;> first | rfl | exact absurd rfl h
 have e2:(op == CmpOp.NotIn)=false:=by cases op <;> first | rfl | exact absurd rfl h2
 cases b <;> simp [behindInMarks,e1,e2]
theorem pe_cmpR {op:CmpOp} {r:R2} (ho:OpR X (compareOp op) r) (ha:PE X a ta) (hb:PE X b tb) (hm:behindInMarks op b=false):PE X (.Compare a [op] [b] pos) (tOp r ta tb):=by
 intro pins s σ H Q I h
 exact wpAny_Compare1 (binT ha hb I h fun v u s2 x y H2 I2 rx ry q=>ho pins s2 σ H2 x y v u Q I2 rx ry q) hm
def tTest (t:TE):TT:=fun σ H Q=>t σ H fun x H'=>∃ k,x=.bl k∧Q k H'
theorem pt_cmpR {op:CmpOp} {r:R2} (ho:OpR X (compareOp op) r) (ha:PE X a ta) (hb:PE X b tb) (hm:behindInMarks op b=false):PT X (.Compare a [op] [b] pos) (tTest (tOp r ta tb)):=by
 intro pins s σ H Q I h
 refine wpAny_isTrue_Compare1 (thn (ha pins s σ H _ I h) fun v s1 ⟨x,H1,I1,r1,q1⟩=>thn (hb pins s1 σ H1 _ I1 q1) fun u s2 ⟨y,H2,I2,r2,q2⟩ =>
  thn (ho pins s2 σ H2 x y v u _ I2 r1 r2 q2) fun c s3 ⟨z,H3,I3,r3,k,e,q3⟩=>?_) hm
 subst e
 cases r3
 exact wpAny_truthy_bool ⟨H3,I3,q3⟩
theorem line63:(sizeLine:Nat)<2 ^ 63:=by rw [sizeLine_eq];decide
theorem vals1 {x:V} {us:List Value} (r:Vals [x] us):∃ u,us=[u]∧RelV x u:=by
 cases r with
 | cons r1 r2=>cases r2;exact ⟨_,rfl,r1⟩
theorem vals2 {x y:V} {us:List Value} (r:Vals [x,y] us):∃ u w',us=[u,w']∧RelV x u∧RelV y w':=by
 cases r with
 | cons r1 r2 =>
  cases r2 with
  | cons r3 r4=>cases r4;exact ⟨_,_,rfl,r1,r3⟩
theorem T9 (hc:X.calm=true):CallR X (.builtin "min") (fun xs H Q=>∃ i j,xs=[.int i,.int j]∧Q (.int (if j<i then j else i)) H):=by
 intro pins s σ H xs us Q I r h
 obtain ⟨i,j,rfl,q⟩:=h
 obtain ⟨u,w',rfl,⟨t,rfl⟩,⟨t',rfl⟩⟩:=vals2 r
 refine min_two_ints (I.ok.hd hc) fun h' tk k=>⟨_,H,I.kept k,?_,q⟩
 by_cases hj:j<i
 ·rw [if_pos hj,if_pos hj];exact ⟨_,rfl⟩
 ·rw [if_neg hj,if_neg hj];exact ⟨_,rfl⟩
theorem Ua:CallR X (.type "int") (fun xs H Q=>(∃ i,xs=[.int i]∧Q (.int i) H)∨∃ k,xs=[.bl k]∧Q (.int (if k then 1 else 0)) H):=by
 intro pins s σ H xs us Q I r h
 rcases h with ⟨i,rfl,q⟩ | ⟨k,rfl,q⟩
 ·obtain ⟨u,rfl,t,rfl⟩:=vals1 r
  exact call_int_int ⟨.int i,H,I,⟨_,rfl⟩,q⟩
 ·obtain ⟨u,rfl,r1⟩:=vals1 r
  cases r1
  exact call_int_bool ⟨.int (if k then 1 else 0),H,I.tok _,⟨_,rfl⟩,q⟩
end
end L2
namespace L2
open PySem PySem.Spec PyProof.Rows
structure ObjM (h:Heap) (x dx C:Addr) (mA:Str→Option Value):Prop where
 obj:h.get? x=some (PySem.W.instObj C dx)
 ns:h.Ns1 dx mA
 ne:dx≠x
theorem lookIn_ns {h:Heap} {dx:Addr} {mA:Str→Option Value} (n:h.Ns1 dx mA):∃ od,h.get? dx=some od∧∀ name,PySem.W.lookIn name od=some (mA name):=by
 obtain ⟨o,es,ep,ho,hd,hk,_,hm⟩:=n
 refine ⟨o,ho,fun name=>?_⟩
 have e:=hm name
 unfold nsFind findBy at e
 rw [←Array.find?_toList] at e
 unfold PySem.W.lookIn
 rw [hd]
 dsimp only
 split
 ·rename_i y q
  rw [q] at e
  exact congrArg some e
 ·rename_i q
  rw [q] at e
  have a:es.toList.any (·.refKey)=false:=by
   rw [List.any_eq_false]
   intro y hy
   obtain ⟨z,t,hkey⟩:=hk y (Array.mem_toList_iff.mp hy)
   simp [DictEntry.refKey,hkey]
  have a':¬ es.toList.any (·.refKey)=true:=by rw [a];exact Bool.false_ne_true
  rw [if_neg a']
  exact congrArg some e
theorem ObjM.look {h:Heap} {x dx C:Addr} {mA:Str→Option Value} (I:ObjM h x dx C mA):∃ od,PySem.W.InstAt h x (PySem.W.instObj C dx) C (some od)∧∀ name,PySem.W.lookIn name od=some (mA name) :=
 let ⟨od,ho,hl⟩:=lookIn_ns I.ns
 ⟨od,⟨I.obj,rfl,rfl,ho⟩,hl⟩
section
variable {prog:Program} {w:World} {A:Around} {E:Value→Shared→Prop} {s:Shared} {K:PySem.W.Frag} {x dx C f:Addr} {mA:Str→Option Value} {name:Str} {v:Value}
theorem get_map {expr:Bool} {Q:Value→Shared→Prop} (X:K.In s.heap) (I:ObjM s.heap x dx C mA) (hg:PySem.W.plainGet K C name=true) (hh:PySem.W.hasDictIn K C=true)
  (ha:PySem.W.findIn K (.ref C) name=some none) (hv:mA name=some v) (hv':PySem.W.handedIn v=true) (h:Q v { s with toks:=s.toks+1 }) :
  wpAny (model prog w) A (getAttr (.ref x) name expr) Q E s:=by
 obtain ⟨od,J,hl⟩:=I.look
 exact PySem.W.get_value X J (PySem.W.plainGet_of hg).1 (PySem.W.findObj_own hh ha rfl (by rw [hl,hv])) hv' h
theorem get_meth {pl:Sem Bool} {Q:Value×List Value→Shared→Prop} (X:K.In s.heap) (I:ObjM s.heap x dx C mA) (hg:PySem.W.plainGet K C name=true)
  (hf:PySem.W.findIn K (.ref C) name=some (some (.ref f))) (ht:PySem.W.isFn K (.ref f)=true) (hv:mA name=none) (h:Q (.ref f,[.ref x]) s) :
  wpAny (model prog w) A (getMethod (.ref x) name pl) Q E s:=by
 obtain ⟨od,J,hl⟩:=I.look
 exact PySem.W.method_fn X J (PySem.W.plainGet_of hg).1 (PySem.W.plainGet_of hg).2 hf (beq_iff_eq.mp ht) (by show (PySem.W.lookIn name od).map (·.isSome)=some false;rw [hl,hv];rfl) h
theorem set_map {ns:List Str} {Q:Unit→Shared→Prop} (X:K.In s.heap) (I:ObjM s.heap x dx C mA)
  (hs:PySem.W.findIn K (.ref C) "__setattr__" = some (some (.builtin "object.__setattr__"))) (hp:PySem.W.plainOver K C=true) (ht:PySem.W.takerIn K C name=some none) (hh:PySem.W.hasDictIn K C=true)
  (hw:PySem.Within mA ns) (hsz:ns.length≤sizeLine)
  (h:∀ h',ObjM h' x dx C (fun y=>if y=name then some v else mA y)→Heap.SameBut dx s.heap h'→Q () { s with heap:=h',toks:=s.toks+2 }) :
  wpAny (model prog w) A (setAttr (.ref x) name v) Q E s:=by
 obtain ⟨od,J,hl⟩:=I.look
 refine PySem.W.set_plain X J hs (PySem.W.osa_open (s:={ s with toks:=s.toks+1 }) (r:=none) X J hp ht fun b=>?_)
 obtain ⟨cd,hc,hd'⟩:=PySem.W.any_some hh
 have hx:s.heap.get? x=some ⟨.ref C,some dx,.plain,#[]⟩:=I.obj
 refine wpAny_bind (wpAny_pure (wpAny_bind (wpAny_bind (wpAny_loadPart hx (wpAny_bind (PySem.W.Looks.here (s:={ s with toks:=s.toks+1 }) (PySem.W.looks_clsIn X hc) ?_))))))
 rw [hd']
 refine wpAny_pure (a:=some dx) (wpAny_bind (wpAny_pure (wpAny_bind ?_)))
 refine wpAny_nsSet1 (s:={ s with toks:=s.toks+1 }) I.ns fun h' hn2 hs2=>?_
 obtain ⟨oD,esD,epD,hoD,hdD,hcD⟩:=hn2.count (PySem.Within.cons name v hw)
 refine wpAny_bind (wpAny_lookBehind hoD (by rw [hdD];exact pastItsLine_dict (Nat.le_trans hcD (by rw [List.length_cons];omega))) ?_)
 exact wpAny_pure (h _ ⟨(hs2.2 _ (Ne.symm I.ne)).trans I.obj,hn2,I.ne⟩ hs2)
theorem make_map {R:Result→Shared→Prop} {vs:List Value} {kw:List (Str×Value)} (X:K.In s.heap) (hm:PySem.W.makesIn K C=true)
  (hi:PySem.W.findIn K (.ref C) "__init__" = some (some (.ref f))) (hf:PySem.W.typeIn K (.ref f)=some (.type "function"))
  (h:codeAny (model prog w) (A.under (.builtin "type.__call__" ⟨.ref C::vs,kw⟩)) (.call (.ref f) ⟨.ref (s.heap.objs.size+1)::vs,kw⟩) (PySem.W.InitBack (s.heap.objs.size+1) R)
   { s with heap:=(s.heap.push PySem.W.emptyDict).push (PySem.W.instObj C s.heap.objs.size) }) :
  codeAny (model prog w) A (.call (.ref C) ⟨vs,kw⟩) R s:=by
 obtain ⟨hh,g,d,t,os⟩:=s
 exact PySem.W.make_core (PySem.W.makes_of X hm) (PySem.W.looks_findIn X hi) (fun self=>PySem.W.bind_fn X self hf) (.inl rfl) h
end
def putF (f:Str) (v:V):List (Str×V)→List (Str×V)
 | []=>[(f,v)]
 | (g,x)::r=>if g=f then (g,v)::r else (g,x)::putF f v r
theorem lookup_putF (f g:Str) (v:V):∀ fs:List (Str×V),(putF f v fs).lookup g=if g=f then some v else fs.lookup g
 | []=>by
  show List.lookup g [(f,v)]=_
  by_cases h:g=f
  ·have hb:(g == f)=true:=beq_iff_eq.mpr h
   simp only [List.lookup,hb,if_pos h]
  ·have hb:(g == f)=false:=beq_eq_false_iff_ne.mpr h
   simp only [List.lookup,hb,if_neg h]
 | (k,x)::r=>by
  have ih:=lookup_putF f g v r
  rw [show putF f v ((k,x)::r)=(if k=f then (k,v)::r else (k,x)::putF f v r) from rfl]
  by_cases hk:k=f
  ·rw [if_pos hk]
   by_cases h:g=k
   ·have hb:(g == k)=true:=beq_iff_eq.mpr h
    simp only [List.lookup,hb,if_pos (h.trans hk)]
   ·have hb:(g == k)=false:=beq_eq_false_iff_ne.mpr h
    simp only [List.lookup,hb,if_neg (fun e:g=f=>h (e.trans hk.symm))]
  ·rw [if_neg hk]
   by_cases h:g=k
   ·have hb:(g == k)=true:=beq_iff_eq.mpr h
    simp only [List.lookup,hb,if_neg (fun e:g=f=>hk (h.symm.trans e))]
   ·have hb:(g == k)=false:=beq_eq_false_iff_ne.mpr h
    simp only [List.lookup,hb]
    exact ih
theorem keys_putF (f:Str) (v:V):∀ fs:List (Str×V),f∈(putF f v fs).map (·.1)∧∀ g,g∈fs.map (·.1)→g∈(putF f v fs).map (·.1)
 | []=>⟨by simp [putF],fun g h=>by simp at h⟩
 | (k,x)::r=>by
  obtain ⟨i1,i2⟩:=keys_putF f v r
  rw [show putF f v ((k,x)::r)=(if k=f then (k,v)::r else (k,x)::putF f v r) from rfl]
  by_cases hk:k=f
  ·rw [if_pos hk]
   subst hk
   exact ⟨by simp,fun g h=>by simpa using h⟩
  ·rw [if_neg hk]
   refine ⟨?_,fun g h=>?_⟩
   ·rw [List.map_cons]
    exact List.mem_cons_of_mem _ i1
   ·rw [List.map_cons] at h ⊢
    rcases List.mem_cons.mp h with e | e
    ·exact List.mem_cons.mpr (.inl e)
    ·exact List.mem_cons_of_mem _ (i2 g e)
theorem length_putF (f:Str) (v:V):∀ fs:List (Str×V),(putF f v fs).length≤fs.length+1
 | []=>by simp [putF]
 | (k,x)::r=>by
  have ih:=length_putF f v r
  rw [show putF f v ((k,x)::r)=(if k=f then (k,v)::r else (k,x)::putF f v r) from rfl]
  by_cases hk:k=f
  ·rw [if_pos hk,List.length_cons,List.length_cons];omega
  ·rw [if_neg hk,List.length_cons,List.length_cons];omega
theorem RelO.some_of {v:V} {o:Option Value} (r:RelO (some v) o):∃ u,o=some u∧RelV v u:=by
 cases o with
 | none=>exact (show False from r).elim
 | some u=>exact ⟨u,rfl,r⟩
theorem RelO.none_of {o:Option Value} (r:RelO none o):o=none:=by
 cases o with
 | none=>rfl
 | some u=>exact (show False from r).elim
theorem handed_of {v:V} {u:Value} (r:RelV v u):PySem.W.handedIn u=true:=by
 cases v with
 | non=>cases (show u=Value.none from r);rfl
 | bl b=>cases (show u=Value.bool b from r);rfl
 | int i=>obtain ⟨t,e⟩:=(show ∃ t,u=Value.int i t from r);cases e;rfl
 | str x=>obtain ⟨t,e⟩:=(show ∃ t,u=Value.str x t from r);cases e;rfl
 | byt b=>obtain ⟨t,e⟩:=(show ∃ t,u=Value.bytes b t from r);cases e;rfl
 | flt b=>obtain ⟨t,e⟩:=(show ∃ t,u=Value.float b t from r);cases e;rfl
 | ref a=>cases (show u=Value.ref a from r);rfl
 | ty n=>cases (show u=Value.type n from r);rfl
section
variable {P:Program} {w:World} {H H':Hp} {h h':Heap} {a C dx:Addr} {fs fs':List (Str×V)}
theorem ins_get (hok:HOk P w H h) (e:H a=some (.ins C dx fs)):∃ mA,ObjM h a dx C mA∧(∀ f,RelO (fs.lookup f) (mA f))∧PySem.Within mA (fs.map (·.1))∧fs.length≤1000∧H dx=some (.own a):=by
 obtain ⟨d,z,ne,ob,mA,n,r,q⟩:=(show ObjOk P w H h a (.ins C dx fs) from hok a _ e)
 exact ⟨mA,⟨ob,n,ne⟩,r,q,z,d⟩
end
structure Cls (K:PySem.W.Frag) (C:Addr):Prop where
 pg:PySem.W.plainGet K C Str.empty=true
 hd:PySem.W.hasDictIn K C=true
 po:PySem.W.plainOver K C=true
 sa:PySem.W.findIn K (.ref C) "__setattr__" = some (some (.builtin "object.__setattr__"))
theorem Cls.get {K:PySem.W.Frag} {C:Addr} (c:Cls K C) (f:Str):PySem.W.plainGet K C f=true:=c.pg
def NoAttr (K:PySem.W.Frag) (C:Addr) (f:Str):Prop:=PySem.W.findIn K (.ref C) f=some none
theorem NoAttr.taker {K:PySem.W.Frag} {C:Addr} {f:Str} (n:NoAttr K C f):PySem.W.takerIn K C f=some none:=by
 unfold PySem.W.takerIn
 rw [show PySem.W.findIn K (.ref C) f=some none from n]
 rfl
structure Meth (K:PySem.W.Frag) (C:Addr) (m:Str) (f:Addr):Prop where
 at_:PySem.W.findIn K (.ref C) m=some (some (.ref f))
 fn:PySem.W.isFn K (.ref f)=true
 kp:PySem.W.keepIn K (.ref f)=true
section
variable {X:Cx} {pins:List (Addr×Obj)} {σ:St} {H:Hp} {s:Shared} {a C dx:Addr} {fs:List (Str×V)} {f:Str} {v:V} {A:Around} {E:Value→Shared→Prop}
theorem getattr_ok {b:Bool} {Q:Value→Shared→Prop} (I:Inv X pins σ H s) (e:H a=some (.ins C dx fs)) (c:Cls X.K C) (n:NoAttr X.K C f) (l:fs.lookup f=some v)
  (h:∀ u s',Inv X pins σ H s'→RelV v u→Q u s'):wpAny (model X.prog X.w) A (getAttr (.ref a) f b) Q E s:=by
 obtain ⟨mA,O,r,_,_,_⟩:=ins_get I.hok e
 obtain ⟨u,hu,ru⟩:=RelO.some_of (v:=v) (o:=mA f) (by rw [←l];exact r f)
 exact get_map I.kIn O (c.get f) c.hd n hu (handed_of ru) (h u _ (I.tok _) ru)
theorem getmeth_ok {m:Str} {g:Addr} {pl:Sem Bool} {Q:Value×List Value→Shared→Prop} (I:Inv X pins σ H s) (e:H a=some (.ins C dx fs)) (c:Cls X.K C) (k:Meth X.K C m g) (l:fs.lookup m=none)
  (h:Q (.ref g,[.ref a]) s):wpAny (model X.prog X.w) A (getMethod (.ref a) m pl) Q E s:=by
 obtain ⟨mA,O,r,_,_,_⟩:=ins_get I.hok e
 have hn:mA m=none:=RelO.none_of (by rw [←l];exact r m)
 exact get_meth I.kIn O (c.get m) k.at_ k.fn hn h
theorem setattr_ok {y:V} {u:Value} {Q:Unit→Shared→Prop} (I:Inv X pins σ H s) (e:H a=some (.ins C dx fs)) (c:Cls X.K C) (n:NoAttr X.K C f) (hl:fs.length<1000) (ry:RelV y u)
  (h:∀ s',Inv X pins σ (upd H a (.ins C dx (putF f y fs))) s'→Q () s'):wpAny (model X.prog X.w) A (setAttr (.ref a) f u) Q E s:=by
 obtain ⟨mA,O,r,wi,_,ho⟩:=ins_get I.hok e
 have hz:(fs.map (·.1)).length≤sizeLine:=by rw [List.length_map,sizeLine_eq];omega
 refine set_map I.kIn O c.sa c.po n.taker c.hd wi hz fun h' O' sb=>h _ ?_
 have hd:∃ o,h'.get? dx=some o:=let ⟨o,_,_,e',_⟩:=O'.ns;⟨o,e'⟩
 refine I.write (x:=a) (e:=dx) (by rw [e];exact True.intro) (.inr ho) (fun b q hb z=>(sb.2 b hb).trans z) hd ?_
 refine ⟨by rw [upd_ne O.ne];exact ho,?_,O.ne,O'.obj,_,O'.ns,fun g=>?_,fun g hg=>?_⟩
 ·have:=length_putF f y fs;omega
 ·show RelO ((putF f y fs).lookup g) (if g=f then some u else mA g)
  rw [lookup_putF]
  by_cases q:g=f
  ·rw [if_pos q,if_pos q];exact ry
  ·rw [if_neg q,if_neg q];exact r g
 ·by_cases q:g=f
  ·rw [q];exact (keys_putF f y fs).1
  ·refine (keys_putF f y fs).2 g (wi g fun z=>hg ?_)
   show (if g=f then some u else mA g)=none
   rw [if_neg q];exact z
theorem Inv.made (I:Inv X pins σ H s):Inv X pins σ (upd (upd H s.heap.objs.size (.own (s.heap.objs.size+1))) (s.heap.objs.size+1) (.ins C s.heap.objs.size []))
  { s with heap:=(s.heap.push PySem.W.emptyDict).push (PySem.W.instObj C s.heap.objs.size) }:=by
 have e1:(s.heap.push PySem.W.emptyDict).get? s.heap.objs.size=some PySem.W.emptyDict:=Heap.get?_push_size s.heap rfl
 have e2:((s.heap.push PySem.W.emptyDict).push (PySem.W.instObj C s.heap.objs.size)).get? (s.heap.objs.size+1)=some (PySem.W.instObj C s.heap.objs.size):=by
  have:=Heap.get?_push_size (s.heap.push PySem.W.emptyDict) (o:=PySem.W.instObj C s.heap.objs.size) rfl
  rwa [Heap.size_push] at this
 have e3:(s.heap.push PySem.W.emptyDict).Ns s.heap.objs.size (fun _=>none):=⟨PySem.W.emptyDict,#[],_,e1,rfl,(fun e he=>absurd he (by simp)),fun _=>rfl⟩
 have I1:=I.laid (a:=s.heap.objs.size) (o:=.own (s.heap.objs.size+1)) (h':=s.heap.push PySem.W.emptyDict) (t':=s.toks) (fun b u q=>Heap.get?_push_of_some _ q) (Nat.le_refl _) ⟨_,e1⟩
 refine I1.laid (a:=s.heap.objs.size+1) (o:=.ins C s.heap.objs.size []) (t':=s.toks) (fun b u q=>Heap.get?_push_of_some _ q) (Nat.le_of_eq (Heap.size_push _ _)) ?_
 have ne:s.heap.objs.size≠s.heap.objs.size+1:=Nat.ne_of_lt (Nat.lt_succ_self _)
 refine ⟨by rw [upd_ne ne,upd_same],Nat.zero_le _,ne,e2,fun _=>none,(Heap.Ns1.of_empty e3).at fun o q=>Heap.get?_push_of_some _ q,fun _=>True.intro,fun y hy=>absurd rfl hy⟩
theorem attr_of {prog:Program} {w:World} {env:Env} {e:Expr} {f:Str} {pos:Pos} {s:Shared} {Q:Value→Shared→Prop} (hb:attributeBase e f env (eval e env)=eval e env)
  (h:wpAny (model prog w) A (eval e env) (fun o s₁=>wpAny (model prog w) A (getAttr o f true) Q E s₁) E s):wpAny (model prog w) A (eval (.Attribute e f pos) env) Q E s :=
 Attribute_any_ h (by rw [arm_eval_Attribute,hb])
end
def tFld (K:PySem.W.Frag) (ta:TE) (f:Str):TE:=fun σ H Q=>ta σ H fun x H1=>∃ a C dx fs v,x=.ref a∧H1 a=some (.ins C dx fs)∧Cls K C∧NoAttr K C f∧fs.lookup f=some v∧Q v H1
def sFld (K:PySem.W.Frag) (ta tv:TE) (f:Str):TS:=fun D σ H=>tv σ H fun y H1=>ta σ H1 fun x H2=>∃ a C dx fs,x=.ref a∧H2 a=some (.ins C dx fs)∧Cls K C∧NoAttr K C f∧fs.length<1000 ∧
 D.nx σ (upd H2 a (.ins C dx (putF f y fs)))
def adP (X:Cx) (op:Operator) (rd:V→V→Hp→VK→Prop):Prop :=
 ∀ (pins:List (Addr×Obj)) (s:Shared) (σ:St) (H:Hp) (x y:V) (u v:Value) (Q:VK),Inv X pins σ H s→RelV x u→RelV y v→rd x y H Q→wpAny (model X.prog X.w) X.A (inplaceOp op u v) (EP X pins σ Q) X.xe s
section
variable {X:Cx} {o e value:Expr} {f:Str} {pos pos' tpos:Pos} {ta tv:TE}
theorem pe_fld (he:PE X e ta) (hb:attributeBase e f X.env (eval e X.env)=eval e X.env):PE X (.Attribute e f pos) (tFld X.K ta f):=by
 intro pins s σ H Q I h
 refine attr_of hb (thn (he pins s σ H _ I h) fun u s1 ⟨x,H1,I1,rx,a,C,dx,fs,v,ex,ea,c,n,l,q⟩=>?_)
 subst ex
 obtain rfl:u=Value.ref a:=rx
 exact getattr_ok I1 ea c n l fun u' s2 I2 ru=>⟨v,H1,I2,ru,q⟩
theorem ps_fld (ha:PE X o ta) (hv:PE X value tv) (hs:swapsWith value (some (.Attribute o f pos')) pos.line X.env=pure false):PS X (.Assign [.Attribute o f pos'] value pos) (sFld X.K ta tv f):=by
 intro pins s σ H D I h
 refine plainObj_wpAny_Assign_Attribute (thn (hv pins s σ H _ I h) fun u s1 ⟨y,H1,I1,ry,q⟩=>thn (ha pins s1 σ H1 _ I1 q) fun ov s2 ⟨x,H2,I2,rx,a,C,dx,fs,ex,ea,c,n,l,q2⟩=>?_) hs
 subst ex
 obtain rfl:ov=Value.ref a:=rx
 exact setattr_ok I2 ea c n l ry fun s3 I3=>⟨σ,_,I3,q2⟩
end
section
variable {X:Cx} {pins:List (Addr×Obj)} {σ:St} {H:Hp} {s:Shared} {A:Around} {E:Value→Shared→Prop} {Q:Value→Shared→Prop} {c:Value} {b:Bool}
inductive TyOf (K:PySem.W.Frag) (H:Hp):V→Value→Prop where
 | non:TyOf K H .non (.type "NoneType")
 | bl (x:Bool):TyOf K H (.bl x) (.type "bool")
 | int (i:Int):TyOf K H (.int i) (.type "int")
 | str (x:Str):TyOf K H (.str x) (.type "str")
 | flt (x:UInt64):TyOf K H (.flt x) (.type "float")
 | lst {a:Addr} {xs:List V} (e:H a=some (.lst xs)):TyOf K H (.ref a) (.type "list")
 | frz {a:Addr} {o:Obj} {xs:List V} (e:H a=some (.frz o (.lst xs))):TyOf K H (.ref a) (.type "list")
 | tup {a:Addr} {xs:List V} (e:H a=some (.tup xs)):TyOf K H (.ref a) (.type "tuple")
 | dK {a:Addr} {kvs:List (Key×V)} (e:H a=some (.dK kvs)):TyOf K H (.ref a) (.type "dict")
 | dT {a:Addr} {kvs:List (List Key×V)} (e:H a=some (.dT kvs)):TyOf K H (.ref a) (.type "dict")
 | ins {a C dx:Addr} {fs:List (Str×V)} (e:H a=some (.ins C dx fs)) (cl:Cls K C) (ha:PySem.W.findIn K (.ref C) "__class__" = some (some (.builtin "object.__class__")))
   (hn:PySem.W.specialIn K (.builtin "object.__class__") "__get__" = some (some (.builtin "getset_descriptor.__get__"))) (htk:PySem.W.takesIn K (.builtin "object.__class__")=some true)
   (hm:PySem.W.mroIn K C (.type "object")=some true):TyOf K H (.ref a) (.ref C)
theorem Ub {x:V} {u t:Value} (I:Inv X pins σ H s) (rx:RelV x u) (ty:TyOf X.K H x t) (e:PySem.W.kitOne X.K t c=some b) (h:∀ tk,Q (.bool b) { s with toks:=tk }) :
  wpAny (model X.prog X.w) A (call (.builtin "isinstance") [u,c]) Q E s:=by
 cases ty with
 | non=>cases (show u=Value.none from rx);exact PySem.W.kia_one PySem.W.kitx_none I.kIn True.intro e (fun z=>nomatch z) h
 | bl y=>cases (show u=Value.bool y from rx);exact PySem.W.kia_one PySem.W.kitx_bool I.kIn True.intro e (fun z=>nomatch z) h
 | int i=>obtain ⟨t,q⟩:=(show ∃ t,u=Value.int i t from rx);cases q;exact PySem.W.kia_one PySem.W.kitx_int I.kIn True.intro e (fun z=>nomatch z) h
 | str y=>obtain ⟨t,q⟩:=(show ∃ t,u=Value.str y t from rx);cases q;exact PySem.W.kia_one PySem.W.kitx_str I.kIn True.intro e (fun z=>nomatch z) h
 | flt y=>obtain ⟨t,q⟩:=(show ∃ t,u=Value.float y t from rx);cases q;exact PySem.W.kia_one PySem.W.kitx_float I.kIn True.intro e (fun z=>nomatch z) h
 | @lst a xs ea =>
  cases (show u=Value.ref a from rx)
  obtain ⟨_,_,n,_,h1⟩:=(show ObjOk X.prog X.w H s.heap a (.lst xs) from I.hok a _ ea)
  exact PySem.W.kia_one PySem.W.kitx_list I.kIn ⟨_,h1,rfl⟩ e (fun z=>nomatch z) h
 | @frz a ob xs ea =>
  cases (show u=Value.ref a from rx)
  obtain ⟨_,_,_,n,_,h1⟩:=(show ObjOk X.prog X.w H s.heap a (.frz ob (.lst xs)) from I.hok a _ ea)
  exact PySem.W.kia_one PySem.W.kitx_list I.kIn ⟨_,h1,rfl⟩ e (fun z=>nomatch z) h
 | @tup a xs ea =>
  cases (show u=Value.ref a from rx)
  obtain ⟨_,_,_,p⟩:=(show ObjOk X.prog X.w H s.heap a (.tup xs) from I.hok a _ ea)
  obtain ⟨o,h1,h2,_⟩:=p
  exact PySem.W.kia_one PySem.W.kitx_tuple I.kIn ⟨o,h1,h2⟩ e (fun z=>nomatch z) h
 | @dK a kvs ea =>
  cases (show u=Value.ref a from rx)
  obtain ⟨_,_,vs,_,p⟩:=(show ObjOk X.prog X.w H s.heap a (.dK kvs) from I.hok a _ ea)
  obtain ⟨o,es,ep,h1,h2,_⟩:=p
  exact PySem.W.kia_one PySem.W.kitx_dict I.kIn ⟨o,h1,h2.1⟩ e (fun z=>nomatch z) h
 | @dT a kvs ea =>
  cases (show u=Value.ref a from rx)
  obtain ⟨_,_,xs,_,o,es,ep,h1,h2,_⟩:=(show ObjOk X.prog X.w H s.heap a (.dT kvs) from I.hok a _ ea)
  exact PySem.W.kia_one PySem.W.kitx_dict I.kIn ⟨o,h1,h2.1⟩ e (fun z=>nomatch z) h
 | @ins a C dx fs ea cl ha hn htk hm =>
  cases (show u=Value.ref a from rx)
  obtain ⟨mA,O,_⟩:=ins_get I.hok ea
  obtain ⟨od,J,_⟩:=O.look
  exact PySem.W.kia_one (PySem.W.kitx_own (cl.get _) cl.hd ha hn htk hm) I.kIn J e (fun z=>nomatch z) h
end
end L2
namespace L2
open PySem PySem.Spec PyProof.Rows
structure Room (k:Nat) (A:Around):Prop where
 hd:A.handled=none
 dp:A.depth+3*k+5<recursionLimit
 un:A.units+16*k+200<cLine
theorem Room.mono {j k:Nat} {A:Around} (r:Room k A) (h:j≤k):Room j A:=⟨r.hd,by have:=r.dp;omega,by have:=r.un;omega⟩
theorem Room.deeper {k:Nat} {A:Around} (r:Room (k+1) A) (env:Env):Room k (A.deeper env) :=
 ⟨r.hd,by have:=r.dp;show A.depth+1+3*k+5<_;omega,by have:=r.un;show A.units+3+16*k+200<_;omega⟩
theorem make_depth {A:Around} {C:Addr} {us:List Value} {kw:List (Str×Value)}:(A.under (.builtin "type.__call__" ⟨.ref C::us,kw⟩)).depth=A.depth+1:=by
 first | rfl | simp [Around.under,Code.weight,Code.isCreation,Code.isGuard,Code.isCaller,Code.frames,Code.isFrame,guardIds]
theorem make_units {A:Around} {C:Addr} {us:List Value} {kw:List (Str×Value)}:(A.under (.builtin "type.__call__" ⟨.ref C::us,kw⟩)).units=A.units+1:=by
 first | rfl | simp [Around.under,Code.cUnits,Code.frames,Code.isFrame]
theorem Room.make {k:Nat} {A:Around} (r:Room (k+1) A) (C:Addr) (us:List Value) (kw:List (Str×Value)):Room k (A.under (.builtin "type.__call__" ⟨.ref C::us,kw⟩)) :=
 ⟨r.hd,by have:=r.dp;rw [make_depth];omega,by have:=r.un;rw [make_units];omega⟩
theorem Room.depth {k:Nat} {A:Around} (r:Room k A):A.depth<recursionLimit:=by have:=r.dp;omega
theorem Room.units {k:Nat} {A:Around} (r:Room k A):A.units+64<cLine:=by have:=r.un;omega
def tNil:TA:=fun _ H Q=>Q [] H
def tCons (ta:TE) (tr:TA):TA:=fun σ H Q=>ta σ H fun x H1=>tr σ H1 fun xs H2=>Q (x::xs) H2
section
variable {X:Cx} {e:Expr} {es:List Expr} {te:TE} {t:TA} {pos:Pos}
theorem pa_nil:PA X [] tNil:=fun _ _ _ _ H Q I h=>Calls.spliced_nil ⟨[],H,I,.nil,h⟩
theorem pa_cons (ha:PE X e te) (hr:PA X es t) (hs:starEach (e::es) X.env=(false,eval e X.env)::starEach es X.env:=by rfl):PA X (e::es) (tCons te t):=by
 intro pos pins s σ H Q I h
 rw [hs]
 show wpAny _ _ (spliced ((false,eval e X.env)::backTo pos (starEach es X.env))) _ _ s
 refine Calls.spliced_cons (thn (ha pins s σ H _ I h) fun u s1 ⟨x,H1,I1,r1,q1⟩=>?_)
 exact thn (hr pos pins s1 σ H1 _ I1 q1) fun us s2 ⟨xs,H2,I2,r2,q2⟩=>⟨x::xs,H2,I2,.cons r1 r2,q2⟩
def aa4 (t:TA):TE:=fun σ H Q=>t σ H fun xs H1=>xs.length≤sizeLine∧∀ p,H1 p=none→Q (.ref p) (upd H1 p (.tup xs))
def tLst (t:TA):TE:=fun σ H Q=>t σ H fun xs H1=>xs.length≤sizeLine∧∀ p,H1 p=none→Q (.ref p) (upd H1 p (.lst xs))
theorem aa5 {x1} (h:PA X es t):PE X (.Tuple es x1 pos) (aa4 t):=by
 intro pins s σ H Q I hq
 refine wpAny_Tuple_spliced (thn (h pos pins s σ H _ I hq) fun us s1 ⟨xs,H1,I1,r,z,q⟩=>⟨by rw [←r.length];exact z,?_⟩)
 have hf:H1 s1.heap.objs.size=none:=I1.hok.fresh (Nat.le_refl _)
 refine ⟨.ref s1.heap.objs.size,upd H1 s1.heap.objs.size (.tup xs),I1.laid (t':=s1.toks) (fun b u e=>Heap.get?_push_of_some _ e) (Nat.le_refl _) ?_,rfl,q _ hf⟩
 exact ⟨z,us,r,⟨_,Heap.get?_push_size _ rfl,rfl,_,rfl⟩⟩
theorem pe_lst (h:PA X es t):PE X (.List es pos) (tLst t):=by
 intro pins s σ H Q I hq
 refine wpAny_List_spliced (thn (h pos pins s σ H _ I hq) fun us s1 ⟨xs,H1,I1,r,z,q⟩=>⟨by rw [←r.length];exact z,?_⟩)
 have hf:H1 s1.heap.objs.size=none:=I1.hok.fresh (Nat.le_refl _)
 refine ⟨.ref s1.heap.objs.size,upd H1 s1.heap.objs.size (.lst xs),I1.laid (t':=s1.toks) (fun b u e=>Heap.get?_push_of_some _ e) (Nat.le_refl _) ?_,rfl,q _ hf⟩
 exact ⟨z,us,0,r,Heap.get?_push_size _ rfl⟩
end
abbrev Sp:=List V→Hp→VK→XK→Prop
abbrev CXT:=List Env→Hp→Shared→XK→Value→Shared→Prop
structure Env0 (P:Program) (w:World) (K:PySem.W.Frag) (mg:Str→Option Value) (base:Heap) (A:Around) (outer:List Env) (s:Shared) (H:Hp):Prop where
 frames:A.frames=some outer
 mod:Mod K mg base
 bs:∀ b o,base.get? b=some o→s.heap.get? b=some o∧H b=none
 bsz:base.objs.size≤s.heap.objs.size
 funs:s.heap.FunFrames base outer
 frf:∀ b∈frs outer,H b=none
 hok:HOk P w H s.heap
 bare:AllBare s.gens
def CE (outer:List Env) (P:Program) (w:World) (H:Hp) (s:Shared) (Q:VK) (u:Value) (s':Shared):Prop :=
 ∃ v H',s'.os=s.os∧AllBare s'.gens∧Un (frs outer) [] H H' s.heap s'.heap∧HOk P w H' s'.heap∧RelV v u∧Q v H'
def CR (CX:CXT) (outer:List Env) (P:Program) (w:World) (H:Hp) (s:Shared) (Q:VK) (E:XK) (r:Result) (s':Shared):Prop :=
 match r with
 | .ok (.ret u)=>CE outer P w H s Q u s'
 | .ok _=>False
 | .error e=>CX outer H s E e s'
structure FnOk (P:Program) (w:World) (K:PySem.W.Frag) (mg:Str→Option Value) (base:Heap) (CX:CXT) (k:Nat) (f:Addr) (fd:FuncData) (ps:List Str) (sp:Sp):Prop where
 len:∀ vs H Q E,sp vs H Q E→vs.length=ps.length
 run:∀ (A:Around) (outer:List Env) (s:Shared) (H:Hp) (args:Args) (us:List Value) (vs:List V) (Q:VK) (E:XK),Room k A→Env0 P w K mg base A outer s H→BindsTo s fd args (ps.zip us)→Vals vs us→sp vs H Q E →
  codeAny (model P w) A (.call (.ref f) args) (CR CX outer P w H s Q E) s
theorem Env0.make {P:Program} {w:World} {K:PySem.W.Frag} {mg:Str→Option Value} {base:Heap} {A:Around} {outer:List Env} {s:Shared} {H:Hp} (e:Env0 P w K mg base A outer s H) (C:Addr) (us:List Value) (kw:List (Str×Value)) :
  Env0 P w K mg base (A.under (.builtin "type.__call__" ⟨.ref C::us,kw⟩)) outer s H:=⟨by first | exact e.frames | (simpa [Around.under,Code.envs,Code.isFrame,pushEnvs] using e.frames),e.mod,e.bs,e.bsz,e.funs,e.frf,e.hok,e.bare⟩
section
variable {X:Cx} {pins:List (Addr×Obj)} {σ:St} {H:Hp} {s s':Shared}
theorem Inv.env0 (I:Inv X pins σ H s):Env0 X.prog X.w X.K X.mg X.base X.A X.stack s H :=
 ⟨I.ok.frames,I.ok.mod,I.bs,Nat.le_trans I.ok.bsz I.sz,I.stack,I.stkFree,I.hok,I.bare⟩
theorem Inv.after {Q:VK} {u:Value} (I:Inv X pins σ H s) (h:CE X.stack X.prog X.w H s Q u s'):EP X pins σ Q u s':=by
 obtain ⟨v,H',os,bare,un,hok,r,q⟩:=h
 obtain ⟨hh,g,d,t,os'⟩:=s'
 obtain rfl:os' = s.os:=os
 exact ⟨v,H',I.call (h':=hh) (g':=g) (d':=d) (t':=t) (ch:=[]) un hok bare (fun b z=>absurd z (by simp)),r,q⟩
end
def tCall (sp:Sp) (dvs:List V) (E:XK) (t:TA):TE:=fun σ H Q=>t σ H fun vs H1=>sp (vs++dvs) H1 Q E
def tMeth (C:Addr) (m:Str) (sp:Sp) (dvs:List V) (E:XK) (ta:TE) (t:TA):TE:=fun σ H Q=>ta σ H fun x H1=>∃ a dx fs,x=.ref a∧H1 a=some (.ins C dx fs)∧fs.lookup m=none ∧
 t σ H1 fun vs H2=>sp (x::(vs++dvs)) H2 Q E
def tMake (C:Addr) (sp:Sp) (dvs:List V) (E:XK) (t:TA):TE:=fun σ H Q=>t σ H fun vs H1=>∀ x dx,H1 x=none→H1 dx=none→dx≠x →
 sp (.ref x::(vs++dvs)) (upd (upd H1 dx (.own x)) x (.ins C dx [])) (fun v H2=>v=.non∧Q (.ref x) H2) E
def Binds (K:PySem.W.Frag) (fd:FuncData) (ps:List Str) (ds:List Value):Prop :=
 ∀ (s:Shared) (us:List Value),K.In s.heap→(us++ds).length=ps.length→BindsTo s fd ⟨us,[]⟩ (ps.zip (us++ds))
theorem Binds.all {K:PySem.W.Frag} {fd:FuncData} {ps:List Str} (h:∀ us:List Value,us.length=ps.length→bindArgs fd ⟨us,[]⟩=pure (ps.zip us)):Binds K fd ps []:=fun s us _ hl=>by
 rw [List.append_nil] at hl ⊢
 exact .of_eq (h us hl)
def Passes (CX:CXT) (X:Cx) (E:XK):Prop:=∀ (pins:List (Addr×Obj)) (σ:St) (H:Hp) (s:Shared) (e:Value) (s':Shared),Inv X pins σ H s→CX X.stack H s E e s'→X.xe e s'
section
variable {X:Cx} {CX:CXT} {k:Nat} {f C:Addr} {fd:FuncData} {ps:List Str} {sp:Sp} {dvs:List V} {ds:List Value} {E:XK} {x m:Str} {p pos apos:Pos} {e o:Expr} {es:List Expr} {ta:TE} {t:TA}
theorem run_fn {pins:List (Addr×Obj)} {σ:St} {H:Hp} {s:Shared} {Q:VK} {us:List Value} {vs:List V} (F:FnOk X.prog X.w X.K X.mg X.base CX k f fd ps sp) (hr:Room k X.A) (hb:Binds X.K fd ps ds) (hd:Vals dvs ds) (hx:Passes CX X E)
  (I:Inv X pins σ H s) (r:Vals vs us) (h:sp (vs++dvs) H Q E):wpAny (model X.prog X.w) X.A (call (.ref f) us) (EP X pins σ Q) X.xe s:=by
 have r2:Vals (vs++dvs) (us++ds):=r.append hd
 have hl:(us++ds).length=ps.length:=by rw [←r2.length];exact F.len _ _ _ _ h
 refine wpAny_call (codeAny_mono (F.run X.A X.stack s H ⟨us,[]⟩ (us++ds) (vs++dvs) Q E hr I.env0 (hb s us I.kIn hl) r2 h) fun r s' hq=>?_)
 cases r with
 | error e=>exact hx pins σ H s e s' I hq
 | ok fl =>
  cases fl with
  | ret u=>exact I.after hq
  | next=>exact False.elim hq
  | brk=>exact False.elim hq
  | cont=>exact False.elim hq
theorem pe_call (F:FnOk X.prog X.w X.K X.mg X.base CX k f fd ps sp) (hr:Room k X.A) (hg:Gl X x) (hm:X.mg x=some (.ref f)) (hk:PySem.W.keepIn X.K (.ref f)=true) (hb:Binds X.K fd ps ds) (hd:Vals dvs ds) (hx:Passes CX X E)
  (ha:PA X (e::es) t) (hdb:(x == ("__debug__":Str))=false:=by decide) (he:starEach (e::es) X.env=(false,eval e X.env)::starEach es X.env:=by rfl) (hpl:(backTo pos (starEach es X.env)).any (·.1)=false:=by rfl) :
  PE X (.Call (.Name x p) (e::es) [] pos) (tCall sp dvs E t):=by
 intro pins s σ H Q I h
 refine wpAny_Call_Name_kw (ld_glob I hg hm ?_ hdb)
 refine PySem.W.callWith_K (h₀:=X.base) I.ok.mod.kin hk (thn (ha pos pins s σ H _ I h) fun us s1 ⟨vs,H1,I1,r,q⟩=>⟨I1.kIn,?_⟩) he hpl
 exact run_fn F hr hb hd hx I1 r q
theorem pe_meth {pl:Sem Bool} (he:PE X o ta) (c:Cls X.K C) (hm:Meth X.K C m f) (F:FnOk X.prog X.w X.K X.mg X.base CX k f fd ps sp) (hr:Room k X.A) (hb:Binds X.K fd ps ds) (hd:Vals dvs ds) (hx:Passes CX X E) (ha:PA X (e::es) t)
  (hst:starEach (e::es) X.env=(false,eval e X.env)::starEach es X.env:=by rfl) (hpl:(backTo pos (starEach es X.env)).any (·.1)=false:=by rfl)
  (ht:eval (.Call (.Attribute o m apos) (e::es) [] pos) X.env=(do
   let ov ←eval o X.env
   standAt apos.atName
   let (f,first) ←holding [ov] (getMethod ov m pl)
   callWith pos f first (backTo pos (starEach (e::es) X.env)) (backToKw pos (keywordEach [] X.env))):=by rfl) :
  PE X (.Call (.Attribute o m apos) (e::es) [] pos) (tMeth C m sp dvs E ta t):=by
 intro pins s σ H Q I h
 refine PySem.W.methodCall_KW (pl:=pl) (thn (he pins s σ H _ I h) fun u s1 ⟨x,H1,I1,rx,a,dx,fs,ex,ea,l,q⟩=>?_) ht
 subst ex
 obtain rfl:u=Value.ref a:=rx
 refine getmeth_ok I1 ea c hm l ?_
 refine PySem.W.callWith_K (first:=[.ref a]) (h₀:=X.base) I.ok.mod.kin hm.kp (thn (ha pos pins s1 σ H1 _ I1 q) fun us s2 ⟨vs,H2,I2,r,q2⟩=>⟨I2.kIn,?_⟩) hst hpl
 exact run_fn (us:=.ref a::us) (vs:=.ref a::vs) F hr hb hd hx I2 (.cons rfl r) q2
theorem Vs {pl:Sem Bool} (he:PE X o ta) (c:Cls X.K C) (hm:Meth X.K C m f) (F:FnOk X.prog X.w X.K X.mg X.base CX k f fd ps sp) (hr:Room k X.A) (hb:Binds X.K fd ps ds) (hd:Vals dvs ds) (hx:Passes CX X E)
  (ht:eval (.Call (.Attribute o m apos) [] [] pos) X.env=(do
   let ov ←eval o X.env
   standAt apos.atName
   let (f,first) ←holding [ov] (getMethod ov m pl)
   callWith pos f first (backTo pos (starEach [] X.env)) (backToKw pos (keywordEach [] X.env))):=by rfl) :
  PE X (.Call (.Attribute o m apos) [] [] pos) (tMeth C m sp dvs E ta tNil):=by
 intro pins s σ H Q I h
 refine PySem.W.methodCall_KW (pl:=pl) (thn (he pins s σ H _ I h) fun u s1 ⟨x,H1,I1,rx,a,dx,fs,ex,ea,l,q⟩=>?_) ht
 subst ex
 obtain rfl:u=Value.ref a:=rx
 refine getmeth_ok I1 ea c hm l ?_
 exact PySem.W.callWith_K0 (first:=[.ref a]) I1.kIn hm.kp (run_fn (us:=[.ref a]) (vs:=[.ref a]) F hr hb hd hx I1 (.cons rfl .nil) q)
structure Mk (K:PySem.W.Frag) (C f:Addr):Prop where
 makes:PySem.W.makesIn K C=true
 init:PySem.W.findIn K (.ref C) "__init__" = some (some (.ref f))
 fn:PySem.W.isFn K (.ref f)=true
 kp:PySem.W.keepIn K (.ref C)=true
theorem run_make {pins:List (Addr×Obj)} {σ:St} {H:Hp} {s:Shared} {Q:VK} {us:List Value} {vs:List V} (M:Mk X.K C f) (F:FnOk X.prog X.w X.K X.mg X.base CX k f fd ps sp) (hr:Room (k+1) X.A) (hb:Binds X.K fd ps ds) (hd:Vals dvs ds)
  (hx:Passes CX X E) (I:Inv X pins σ H s) (r:Vals vs us)
  (h:∀ x dx,H x=none→H dx=none→dx≠x→sp (.ref x::(vs++dvs)) (upd (upd H dx (.own x)) x (.ins C dx [])) (fun v H2=>v=.non∧Q (.ref x) H2) E) :
  wpAny (model X.prog X.w) X.A (call (.ref C) us) (EP X pins σ Q) X.xe s:=by
 have hq:=h (s.heap.objs.size+1) s.heap.objs.size (I.hok.fresh (Nat.le_succ _)) (I.hok.fresh (Nat.le_refl _)) (Nat.ne_of_lt (Nat.lt_succ_self _))
 have I2:=Inv.made (C:=C) I
 have r2:Vals (V.ref (s.heap.objs.size+1)::(vs++dvs)) (Value.ref (s.heap.objs.size+1)::(us++ds)):=.cons rfl (r.append hd)
 have hl:(Value.ref (s.heap.objs.size+1)::us++ds).length=ps.length:=by
  have e:=r2.length
  rw [F.len _ _ _ _ hq] at e
  exact e.symm
 refine wpAny_call (make_map (f:=f) I.kIn M.makes M.init (beq_iff_eq.mp M.fn) (codeAny_mono (F.run _ X.stack _ _ ⟨Value.ref (s.heap.objs.size+1)::us,[]⟩ (Value.ref (s.heap.objs.size+1)::(us++ds)) _ _ E (hr.make C us [])
  (I2.env0.make C us []) (hb _ (Value.ref (s.heap.objs.size+1)::us) I2.kIn hl) r2 hq) fun r s' hq'=>?_))
 cases r with
 | error e=>exact hx pins σ _ _ e s' I2 hq'
 | ok fl =>
  cases fl with
  | ret u =>
   obtain ⟨v,H',I3,rv,ev,q3⟩:=I2.after hq'
   subst ev
   exact ⟨rv,⟨V.ref (s.heap.objs.size+1),H',I3,rfl,q3⟩⟩
  | next=>exact False.elim hq'
  | brk=>exact False.elim hq'
  | cont=>exact False.elim hq'
theorem YT (M:Mk X.K C f) (F:FnOk X.prog X.w X.K X.mg X.base CX k f fd ps sp) (hr:Room (k+1) X.A) (hg:Gl X x) (hm:X.mg x=some (.ref C)) (hb:Binds X.K fd ps ds) (hd:Vals dvs ds) (hx:Passes CX X E)
  (ha:PA X (e::es) t) (hdb:(x == ("__debug__":Str))=false:=by decide) (he:starEach (e::es) X.env=(false,eval e X.env)::starEach es X.env:=by rfl) (hpl:(backTo pos (starEach es X.env)).any (·.1)=false:=by rfl) :
  PE X (.Call (.Name x p) (e::es) [] pos) (tMake C sp dvs E t):=by
 intro pins s σ H Q I h
 refine wpAny_Call_Name_kw (ld_glob I hg hm ?_ hdb)
 refine PySem.W.callWith_K (h₀:=X.base) I.ok.mod.kin M.kp (thn (ha pos pins s σ H _ I h) fun us s1 ⟨vs,H1,I1,r,q⟩=>⟨I1.kIn,?_⟩) he hpl
 exact run_make M F hr hb hd hx I1 r q
theorem pe_make0 (M:Mk X.K C f) (F:FnOk X.prog X.w X.K X.mg X.base CX k f fd ps sp) (hr:Room (k+1) X.A) (hg:Gl X x) (hm:X.mg x=some (.ref C)) (hb:Binds X.K fd ps ds) (hd:Vals dvs ds) (hx:Passes CX X E)
  (hdb:(x == ("__debug__":Str))=false:=by decide):PE X (.Call (.Name x p) [] [] pos) (tMake C sp dvs E tNil):=by
 intro pins s σ H Q I h
 refine wpAny_Call_Name_kw (ld_glob I hg hm ?_ hdb)
 exact PySem.W.callWith_K0 I.kIn M.kp (run_make (us:=[]) M F hr hb hd hx I .nil h)
end
section
variable {X:Cx} {CX:CXT} {k:Nat} {f C:Addr} {fd:FuncData} {ps ks:List Str} {sp:Sp} {E:XK} {x m:Str} {p pos apos kpos:Pos} {e o:Expr} {es:List Expr} {kws:List Keyword} {te ta:TE} {t tk:TA} {nm:Option Str}
variable {g:List Value→List Value→List Value} {gV:List V→List V→List V}
end
structure FnScope (N P:List Str) (sc:Scope):Prop where
 kind:sc.kind=.function
 co:sc.isCoroutine=false
 gen:sc.isGenerator=false
 nd:N.Nodup
 pre:N.take P.length=P
 par:∀ x∈P,sc.names.lookup x=some .local∨sc.names.lookup x=some .cell
 nofree:∀ y∈sc.names,y.2≠.free
theorem bindL_out {kindOf:Str→Option NameKind} {x:Str}:∀ {binds:List (Str×Value)} {m:Str→Option Value},(∀ v,(x,v) ∉ binds)→bindL kindOf binds m x=m x
 | [],_,_=>rfl
 | (n,v)::r,m,h=>by
  unfold bindL
  rw [bindL_out fun w hw=>h w (List.mem_cons_of_mem _ hw)]
  split
  ·have:x≠n:=by rintro rfl;exact h v List.mem_cons_self
   simp [this]
  ·rfl
theorem bindC_out {kindOf:Str→Option NameKind} {x:Str}:∀ {binds:List (Str×Value)} {m:Str→Option Value},(∀ v,(x,v) ∉ binds)→bindC kindOf binds m x=m x
 | [],_,_=>rfl
 | (n,v)::r,m,h=>by
  unfold bindC
  rw [bindC_out fun w hw=>h w (List.mem_cons_of_mem _ hw)]
  split
  ·rfl
  ·have:x≠n:=by rintro rfl;exact h v List.mem_cons_self
   simp [this]
theorem bindL_get {kindOf:Str→Option NameKind} {x:Str} {v:Value}:∀ {P:List Str} {vs:List Value} {i:Nat} {m:Str→Option Value},P.Nodup→P[i]? = some x→vs[i]? = some v→kindOf x=some .local →
  bindL kindOf (P.zip vs) m x=some v
 | [],_,_,_,_,h,_,_=>by simp at h
 | _::_,[],_,_,_,_,h,_=>by simp at h
 | p::P,w::vs,0,m,nd,h1,h2,hk=>by
  simp at h1 h2;subst h1;subst h2
  show bindL kindOf ((p,w)::P.zip vs) m p=_
  unfold bindL
  rw [bindL_out fun v hv=>(List.nodup_cons.mp nd).1 (List.of_mem_zip hv).1,if_pos hk]
  simp
 | p::P,w::vs,i+1,m,nd,h1,h2,hk=>by
  show bindL kindOf ((p,w)::P.zip vs) m x=_
  unfold bindL
  exact bindL_get (i:=i) (List.nodup_cons.mp nd).2 (by simpa using h1) (by simpa using h2) hk
theorem bindC_get {kindOf:Str→Option NameKind} {x:Str} {v:Value}:∀ {P:List Str} {vs:List Value} {i:Nat} {m:Str→Option Value},P.Nodup→P[i]? = some x→vs[i]? = some v→kindOf x≠some .local →
  bindC kindOf (P.zip vs) m x=some v
 | [],_,_,_,_,h,_,_=>by simp at h
 | _::_,[],_,_,_,_,h,_=>by simp at h
 | p::P,w::vs,0,m,nd,h1,h2,hk=>by
  simp at h1 h2;subst h1;subst h2
  show bindC kindOf ((p,w)::P.zip vs) m p=_
  unfold bindC
  rw [bindC_out fun v hv=>(List.nodup_cons.mp nd).1 (List.of_mem_zip hv).1,if_neg hk]
  simp
 | p::P,w::vs,i+1,m,nd,h1,h2,hk=>by
  show bindC kindOf ((p,w)::P.zip vs) m x=_
  unfold bindC
  exact bindC_get (i:=i) (List.nodup_cons.mp nd).2 (by simpa using h1) (by simpa using h2) hk
def start (N:List Str) (vs:List V):St:=vs.map some++List.replicate (N.length - vs.length) none
def cxOf (CX:CXT) (P:Program) (w:World) (K:PySem.W.Frag) (mg:Str→Option Value) (base:Heap) (N:List Str) (qual:Str) (scope:Scope) (f:Addr) (cd:Value) (A:Around) (outer:List Env) (s:Shared) (H:Hp) (E:XK):Cx where
 prog:=P
 w:=w
 K:=K
 mg:=mg
 base:=base
 A:=A.deeper (envOfC qual scope s.heap.objs.size f cd)
 N:=N
 s₀:=s
 H₀:=H
 env:=envOfC qual scope s.heap.objs.size f cd
 outer:=outer
 stack:=envOfC qual scope s.heap.objs.size f cd::outer
 ex:=[]
 calm:=true
 fn:=fun _=>true
 pn:=[]
 xe:=fun e s'=>wpAny (model P w) (A.deeper (envOfC qual scope s.heap.objs.size f cd)) (leaving (envOfC qual scope s.heap.objs.size f cd) e) (fun _ s''=>CX outer H s E e s'') (fun e' s''=>CX outer H s E e' s'') s'
theorem cell_has {sc:Scope} {n:Nat} {x:Str} (h:sc.names.lookup x=some .cell):∃ c,(cellsFrom n sc.names []).lookup x=some c:=by
 have q:=PySem.W.cellsFrom_some sc.names n [] (.inl h)
 exact Option.isSome_iff_exists.mp q
theorem inv_start {CX:CXT} {P:Program} {w:World} {K:PySem.W.Frag} {mg:Str→Option Value} {base:Heap} {N ps:List Str} {qual:Str} {scope:Scope} {f:Addr} {cd:Value} {A:Around} {outer:List Env} {s s1:Shared} {H:Hp} {E:XK} {us:List Value} {vs:List V}
  (S:FnScope N ps scope) (hd:A.handled=none) (e0:Env0 P w K mg base A outer s H) (hl:vs.length=ps.length) (r:Vals vs us)
  (x:InCallC s s.heap.objs.size (bindL (envOfC qual scope s.heap.objs.size f cd).kindOf (ps.zip us) fun _=>none) (cellsFrom (s.heap.objs.size+1) scope.names []) (bindC (envOfC qual scope s.heap.objs.size f cd).kindOf (ps.zip us) fun _=>none) s1) :
  Inv (cxOf CX P w K mg base N qual scope f cd A outer s H E) [] (start N vs) H s1:=by
 have hpl:ps.length≤N.length:=by have:=congrArg List.length S.pre;rw [List.length_take] at this;omega
 obtain ⟨h1,tk,rfl,hk⟩:=x.done
 have noA:∀ b:Addr,b ∉ (cxOf CX P w K mg base N qual scope f cd A outer s H E).ex:=fun b z=>absurd (show b∈([]:List Addr) from z) (by simp)
 refine ⟨⟨e0.mod,S.kind,rfl,rfl,Nat.le_refl _,fun y z c h1 h2=>?_,fun y hy=>?_,fun y c _ h=>?_,fun _=>hd,Around.frames_deeper e0.frames,.inr ⟨rfl,rfl⟩,fun b z=>absurd z (noA b),e0.bs,e0.bsz,fun b _ _=>noA b,fun b z=>absurd z (noA b),e0.funs,e0.frf⟩,
  rfl,e0.bare,Un.kept hk,⟨_,x.toInCall.ns,fun i y v h1 h2 h3=>?_⟩,fun y c h=>⟨_,x.cell y c h⟩,e0.hok.fresh (Nat.le_refl _),fun y c h=>?_,fun p hp=>absurd (show p∈([]:List (Addr×Obj)) from hp) (by simp),e0.hok.kept hk,?_⟩
 ·exact name_of_addr x.apart (PySem.mem_of_lookup h1) (PySem.mem_of_lookup h2)
 ·have hy:scope.names.lookup y=some .cell∨scope.names.lookup y=some .free:=hy
  rcases hy with hy | hy
  ·exact cell_has hy
  ·exact absurd rfl (S.nofree _ (PySem.mem_of_lookup hy))
 ·exact Nat.le_of_lt (x.above y c (PySem.mem_of_lookup h))
 ·have hi:i<vs.length:=by
   unfold start at h2
   by_cases hi:i<vs.length
   ·exact hi
   ·rw [List.getElem?_append_right (by simpa using hi)] at h2
    rw [List.getElem?_replicate] at h2
    split at h2 <;> cases h2
  have ha:vs[i]? = some v:=by
   unfold start at h2
   rw [List.getElem?_append_left (by simpa using hi),List.getElem?_map] at h2
   cases e:vs[i]? with
   | none=>rw [e] at h2;cases h2
   | some a=>rw [e] at h2;cases h2;rfl
  obtain ⟨u,hu,rv⟩:=r.get ha
  have hp:ps[i]? = some y:=by
   rw [←S.pre,List.getElem?_take_of_lt (by omega)];exact h1
  have ndP:ps.Nodup:=by rw [←S.pre];exact S.nd.sublist (List.take_sublist _ _)
  refine ⟨u,rv,?_⟩
  rcases S.par y (List.mem_of_getElem? hp) with k | k
  ·exact .inl ⟨k,bindL_get ndP hp hu k⟩
  ·obtain ⟨c,e⟩:=cell_has (n:=s.heap.objs.size+1) k
   refine .inr ⟨.inl k,c,e,?_⟩
   have q:=x.cell y c e
   rw [bindC_get ndP hp hu (by show scope.names.lookup y≠_;rw [k];decide)] at q
   exact q
 ·exact e0.hok.fresh (Nat.le_of_lt (x.above y c (PySem.mem_of_lookup h)))
 ·unfold start
  show _=N.length
  rw [List.length_append,List.length_map,List.length_replicate]
  omega
theorem fn_of {CX:CXT} {P:Program} {w:World} {K:PySem.W.Frag} {mg:Str→Option Value} {base:Heap} {k:Nat} {f:Addr} {name qual:Str} {params:Arguments} {body:List Stmt} {scope:Scope} {dV kV doc pm cdv ct oc:Value} {an od:Option Addr}
  {osl:Array (Option Value)} {N ps:List Str} {sp:Sp} (lk:K.lookup f=some ⟨oc,od,.func (PySem.W.fnOf name qual params body scope dV kV doc pm an cdv ct),osl⟩) (hcd:PySem.W.codeIn K cdv qual=true) (S:FnScope N ps scope)
  (len:∀ vs H Q E,sp vs H Q E→vs.length=ps.length)
  (hbody:∀ (A:Around) (outer:List Env) (s:Shared) (H:Hp) (vs:List V) (Q:VK) (E:XK),Room k (A.deeper (envOfC qual scope s.heap.objs.size f cdv))→sp vs H Q E →
   ∃ t,PSs (cxOf CX P w K mg base N qual scope f cdv A outer s H E) body t∧t { nx:=fun _ H'=>Q .non H',rt:=Q } (start N vs) H) :
  FnOk P w K mg base CX (k+1) f (PySem.W.fnOf name qual params body scope dV kV doc pm an cdv ct) ps sp:=by
 refine ⟨len,fun A outer s H args us vs Q E hr e0 hb r hsp=>?_⟩
 have hl:=len _ _ _ _ hsp
 have KX:K.In s.heap:=e0.mod.kin.keeps fun b o e=>(e0.bs b o e).1
 have lim:s.heap.NoLimit:=e0.mod.nolimit.keeps fun b o e=>(e0.bs b o e).1
 have hkind:∀ y∈ps.zip us,scope.names.lookup y.1=some .local∨(scope.names.lookup y.1=some .cell∧((cellsFrom (s.heap.objs.size+1) scope.names []).lookup y.1).isSome=true):=fun ⟨n,v⟩ hy=>by
  rcases S.par n (List.of_mem_zip hy).1 with q | q
  ·exact .inl q
  ·exact .inr ⟨q,PySem.W.cellsFrom_some _ _ _ (.inl q)⟩
 refine codeAny_call_function hr.depth (KX _ _ lk) rfl S.co S.gen rfl (PySem.W.codeRec_of KX hcd) (hb _ _ _ _ ?_)
 refine wpAny_newFunctionEnv_cells S.kind hkind fun env he s1 x=>?_
 subst he
 refine ⟨lim.keeps x.toInCall.keep,codeAny_func ?_⟩
 obtain ⟨t,ht,hq⟩:=hbody A outer s H vs Q E (hr.deeper _) hsp
 have I:Inv (cxOf CX P w K mg base N qual scope f cdv A outer s H E) [] (start N vs) H s1:=inv_start S hr.hd e0 hl r x
 refine wpAny_mono (ht [] s1 (start N vs) H _ I hq) (fun fl s' hs=>?_) fun e s' hs=>hs
 have fin:∀ {σ':St} {H':Hp} {v:V} {u:Value},Inv (cxOf CX P w K mg base N qual scope f cdv A outer s H E) [] σ' H' s'→RelV v u→Q v H'→CE outer P w H s Q u s' :=
  fun {σ' H' v u} J rv q=>⟨v,H',J.os,J.bare,J.base,J.hok,rv,q⟩
 cases fl with
 | ret u =>
  obtain ⟨v,σ',H',J,rv,q⟩:=hs
  exact fin J rv q
 | next =>
  obtain ⟨σ',H',J,q⟩:=hs
  exact fin (v:=V.non) (u:=Value.none) J rfl q
 | brk =>
  obtain ⟨_,_,_,q⟩:=hs
  exact False.elim q
 | cont =>
  obtain ⟨_,_,_,q⟩:=hs
  exact False.elim q
end L2
namespace L2
open PySem PySem.Spec PyProof.Rows
section
variable {X:Cx} {x:Str} {p pos:Pos} {e:Expr} {es:List Expr} {t:TA} {id T:String} {r:List V→Hp→VK→Prop}
def tCB (r:List V→Hp→VK→Prop) (t:TA):TE:=fun σ H Q=>t σ H fun vs H1=>r vs H1 Q
theorem pe_callB (hc:CallR X (.builtin id) r) (hg:Gl X x) (hm:X.mg x=none) (hv:bootBuiltins x=some (.builtin id)) (ha:PA X (e::es) t) (hn:x ≠ "__name__":=by decide) (hdb:(x == ("__debug__":Str))=false:=by decide)
  (he:starEach (e::es) X.env=(false,eval e X.env)::starEach es X.env:=by rfl) (hpl:(backTo pos (starEach es X.env)).any (·.1)=false:=by rfl):PE X (.Call (.Name x p) (e::es) [] pos) (tCB r t):=by
 intro pins s σ H Q I h
 refine wpAny_Call_Name_kw (ld_blt I hg hm hv ?_ hn hdb)
 exact PyProof.Rows.callWith_builtin1 (thn (ha pos pins s σ H _ I h) fun us s1 ⟨vs,H1,I1,r1,q1⟩=>hc pins s1 σ H1 vs us Q I1 r1 q1) he hpl
theorem Uc (hc:CallR X (.type T) r) (hg:Gl X x) (hm:X.mg x=none) (hv:bootBuiltins x=some (.type T)) (ha:PA X (e::es) t) (hn:x ≠ "__name__":=by decide) (hdb:(x == ("__debug__":Str))=false:=by decide)
  (he:starEach (e::es) X.env=(false,eval e X.env)::starEach es X.env:=by rfl) (hpl:(backTo pos (starEach es X.env)).any (·.1)=false:=by rfl):PE X (.Call (.Name x p) (e::es) [] pos) (tCB r t):=by
 intro pins s σ H Q I h
 refine wpAny_Call_Name_kw (ld_blt I hg hm hv ?_ hn hdb)
 exact PyProof.Rows.callWith_type1 (thn (ha pos pins s σ H _ I h) fun us s1 ⟨vs,H1,I1,r1,q1⟩=>hc pins s1 σ H1 vs us Q I1 r1 q1) he hpl
end
end L2
namespace HT
open PySem PyProof.Rows
section
open PySem.SeqAt
open PySem.AutoSeq1 (wpAny_loadPart')
open PySem.MeetsSeq PySem.MeetsSeq2 PySem.MeetsSeq3
end
section
variable {prog:Program} {w:World} {A:Around} {E:Value→Shared→Prop} {s:Shared}
def jx (n d:Nat):Option Int→Nat
 | none=>d
 | some v=>if v<0 then (v+(n:Int)).toNat else min v.toNat n
theorem Lp (n d:Nat):jx n d none=d:=rfl
theorem rR (n d k:Nat):jx n d (some (k:Int))=min k n:=by
 show (if (k:Int)<0 then ((k:Int)+(n:Int)).toNat else min (k:Int).toNat n)=min k n
 rw [if_neg (by omega),Int.toNat_natCast]
theorem aa6 (n d:Nat) (hd:d≤n) (o:Option Int):jx n d o≤n:=by
 cases o with
 | none=>exact hd
 | some v =>
  show (if v<0 then (v+(n:Int)).toNat else min v.toNat n)≤n
  by_cases hv:v<0
  ·rw [if_pos hv];omega
  ·rw [if_neg hv];exact Nat.min_le_right _ _
theorem QX (v:Int) (n d:Nat):(if v<0 then max (v+(n:Int)) 0 else min v (n:Int))=((jx n d (some v):Nat):Int):=by
 show (if v<0 then max (v+(n:Int)) 0 else min v (n:Int))=(((if v<0 then (v+(n:Int)).toNat else min v.toNat n):Nat):Int)
 by_cases hv:v<0
 ·simp only [if_pos hv];omega
 ·simp only [if_neg hv];omega
theorem O2 (lo hi:Option Int) (n:Nat):Builtin.Slice.sliceAdjust lo hi 1 (n:Int)=(((jx n 0 lo:Nat):Int),((jx n n hi:Nat):Int)):=by
 have h1:¬ ((1:Int)<0):=by omega
 unfold Builtin.Slice.sliceAdjust
 simp only [h1,if_false]
 refine Prod.ext ?_ ?_
 ·cases lo with
  | none=>rfl
  | some v=>exact QX v n 0
 ·cases hi with
  | none=>rfl
  | some v=>exact QX v n n
theorem O4 (i j:Nat):Builtin.Slice.slicePlaces (i:Int) (j:Int) 1=j - i:=by
 unfold Builtin.Slice.slicePlaces
 have h1:(1:Int) > 0:=by omega
 simp only [h1,if_true,Int.ediv_one]
 split <;> omega
theorem Fd {v:Value} {o:Option Int} {Q:Option Int→Shared→Prop} (p:IsPart v o) (h:Q o s):wpAny (model prog w) A (Builtin.Slice.slicePartIndex v) Q E s:=by
 cases p with
 | none=>exact slicePart_none h
 | int i t=>exact slicePart_int h
theorem Ao {sl:Addr} {vl vu:Value} {lo hi:Option Int} {n:Nat} {Q:Int×Int×Nat→Shared→Prop} (hs:s.heap.IsSliceOf sl vl vu .none) (pl:IsPart vl lo) (pu:IsPart vu hi)
  (h:Q (((jx n 0 lo:Nat):Int),1,jx n n hi - jx n 0 lo) s):wpAny (model prog w) A (Builtin.Slice.sliceApplied (.ref sl) (pure (n:Int))) Q E s:=by
 obtain ⟨os,hos,hcs,hds⟩:=id hs
 unfold Builtin.Slice.sliceApplied Builtin.Slice.sliceFields
 refine wpAny_bind (wpAny_bind (wpAny_field hos hds (x:=vl) rfl (wpAny_bind (wpAny_field hos hds (x:=vu) rfl (wpAny_bind (wpAny_field hos hds (x:=.none) rfl (wpAny_pure ?_)))))))
 refine wpAny_bind (slicePart_none ?_)
 show wpAny _ _ (if ((1:Int) == 0)=true then _ else _) _ _ s
 rw [if_neg (by decide)]
 refine wpAny_bind (Fd pl (wpAny_bind (Fd pu (wpAny_bind (wpAny_pure ?_)))))
 show wpAny _ _ (match Builtin.Slice.sliceAdjust lo hi 1 (n:Int) with | (lo,hi)=>pure (lo,(1:Int),Builtin.Slice.slicePlaces lo hi 1)) _ _ s
 rw [O2 lo hi n]
 show wpAny _ _ (pure (((jx n 0 lo:Nat):Int),(1:Int),Builtin.Slice.slicePlaces ((jx n 0 lo:Nat):Int) ((jx n n hi:Nat):Int) 1)) _ _ s
 rw [O4]
 exact wpAny_pure h
theorem Vt (xs:Array Value) (i k:Nat):((List.range k).filterMap fun (m:Nat)=>xs[((i:Int)+(m:Int)*1).toNat]?).toArray=((xs.toList.drop i).take k).toArray:=by
 have e:(fun (m:Nat)=>xs[((i:Int)+(m:Int)*1).toNat]?)=fun m=>xs[i+m]?:=by
  funext m
  have:((i:Int)+(m:Int)*1).toNat=i+m:=by omega
  rw [this]
 rw [e]
 have:=pick_run xs i k
 rw [List.filterMap_map] at this
 have e2:((fun x=>xs[x]?) ∘ fun x=>i+x)=fun m=>xs[i+m]?:=rfl
 rw [e2] at this
 rw [this]
theorem yK {t sl:Addr} {items:Array Value} {vl vu:Value} {lo hi:Option Int} {Q:Value→Shared→Prop} (ht:IsTup s.heap t items) (hs:s.heap.IsSliceOf sl vl vu .none) (pl:IsPart vl lo) (pu:IsPart vu hi)
  (hw:¬ (jx items.size 0 lo=0∧jx items.size items.size hi=items.size))
  (h:Q (.ref s.heap.objs.size) { s with heap:=s.heap.push { cls:=.type "tuple",data:=.seq ((items.toList.drop (jx items.size 0 lo)).take (jx items.size items.size hi - jx items.size 0 lo)).toArray } })
  (hsz:items.size≤sizeLine):wpAny (model prog w) A (getItem (.ref t) (.ref sl)) Q E s:=by
 have QZ:sizeOk (.seq ((items.toList.drop (jx items.size 0 lo)).take (jx items.size items.size hi - jx items.size 0 lo)).toArray):=by
  show ((items.toList.drop (jx items.size 0 lo)).take (jx items.size items.size hi - jx items.size 0 lo)).toArray.size≤sizeLine
  rw [List.size_toArray,List.length_take,List.length_drop,Array.length_toList]
  omega
 have hj:jx items.size items.size hi≤items.size:=aa6 _ _ (Nat.le_refl _) hi
 obtain ⟨os,hos,hcs,hds⟩:=id hs
 have hTs:s.TypeIs (.ref sl) "slice":=⟨os,hos,hcs⟩
 unfold getItem
 try with_reducible refine wpAny_holding ?_
 first | refine wpAny_bind (wpAny_pure ?_) | skip
 refine wpAny_bind (wpAny_sequenceKey ht.typeIs (by decide) ?_)
 refine wpAny_bind (wpAny_callSpecial?_slot (name:=Str.ofString "__getitem__") ht.typeIs PyProof.Rows.slot_tuple_getitem
  (wpAny_call_entry PyProof.Rows.slot_tuple_getitem ht.typeIs entry_tuple_getitem ?_ (args_tuple_getitem _ _)))
 show wpAny _ _ (Builtin.Tuple.tupleItemsOf (.ref t) >>= _) _ _ s
 refine wpAny_bind (tupleItemsOf_ ht ?_)
 refine wpAny_bind (wpAny_typeOf hTs ?_)
 rw [if_pos (by decide)]
 refine wpAny_bind (Ao hs pl pu ?_)
 have hno:¬ ((((jx items.size 0 lo:Nat):Int) == 0 && (1:Int) == 1 && (jx items.size items.size hi - jx items.size 0 lo) == items.size)=true):=by
  intro q
  rw [Bool.and_eq_true,Bool.and_eq_true] at q
  have q1:((jx items.size 0 lo:Nat):Int)=0:=eq_of_beq q.1.1
  have q2:jx items.size items.size hi - jx items.size 0 lo=items.size:=eq_of_beq q.2
  exact hw ⟨by omega,by omega⟩
 show wpAny _ _ (if (((jx items.size 0 lo:Nat):Int) == 0 && (1:Int) == 1 && (jx items.size items.size hi - jx items.size 0 lo) == items.size)=true then _ else _) _ _ s
 rw [if_neg hno,Vt]
 first
  | exact wpAny_bind (m:=Builtin.Tuple.tupleExact _) (wpAny_newObj_type (wpAny_pure ⟨_,rfl,wpAny_pure h⟩) QZ)
  | exact wpAny_bind (m:=Builtin.Tuple.tupleExact _) (wpAny_newObj_type (wpAny_bind (wpAny_pure (wpAny_pure ⟨_,rfl,wpAny_pure h⟩))) QZ)
  | exact wpAny_bind (wpAny_bind (m:=Builtin.Tuple.tupleExact _) (wpAny_newObj_type (wpAny_pure (wpAny_pure ⟨_,rfl,wpAny_pure h⟩)) QZ))
  | exact wpAny_bind (wpAny_bind (m:=Builtin.Tuple.tupleExact _) (wpAny_newObj_type (wpAny_pure ⟨_,rfl,wpAny_pure h⟩) QZ))
end
end HT
namespace L2
open PySem PySem.Spec PyProof.Rows
abbrev TO:=St→Hp→(Option Int→Hp→Prop)→Prop
def PO (X:Cx) (e:Option Expr) (t:TO):Prop :=
 ∀ (pins:List (Addr×Obj)) (s:Shared) (σ:St) (H:Hp) (Q:Option Int→Hp→Prop),Inv X pins σ H s→t σ H Q →
  wpAny (model X.prog X.w) X.A (evalPart e X.env) (fun u s'=>∃ o H',Inv X pins σ H' s'∧IsPart u o∧Q o H') X.xe s
def JT:TO:=fun _ H Q=>Q none H
def Vu (t:TE):TO:=fun σ H Q=>t σ H fun x H1=>∃ i,x=.int i∧Q (some i) H1
theorem intsAre_of {ns:List Int}:∀ {us:List Value},Vals (ns.map V.int) us→IntsAre us ns:=by
 induction ns with
 | nil=>intro us r;rw [List.map_nil] at r;cases r;exact .nil
 | cons n ns ih =>
  intro us r
  rw [List.map_cons] at r
  cases r with
  | cons r1 r2 =>
   obtain ⟨t,e⟩:=r1
   subst e
   exact .cons n t (ih r2)
section
variable {X:Cx} {e:Expr} {te:TE} {lo hi:Option Expr} {tl th:TO} {pos p2:Pos}
theorem YW:PO X none JT:=by
 intro pins s σ H Q I h
 rw [evalPart_none]
 exact wpAny_pure ⟨none,H,I,.none,h⟩
theorem YX (h:PE X e te):PO X (some e) (Vu te):=by
 intro pins s σ H Q I hw
 rw [evalPart_some]
 refine thn (h pins s σ H _ I hw) fun u s1 ⟨x,H1,I1,r1,q1⟩=>?_
 obtain ⟨i,rfl,q⟩:=q1
 obtain ⟨t,rfl⟩:=r1
 exact ⟨some i,H1,I1,.int i t,q⟩
def SlR (X:Cx) (r:V→Option Int→Option Int→Hp→VK→Prop):Prop :=
 ∀ (pins:List (Addr×Obj)) (s:Shared) (σ:St) (H:Hp) (x:V) (v vl vu:Value) (lo hi:Option Int) (sl:Addr) (Q:VK),Inv X pins σ H s→RelV x v→s.heap.IsSliceOf sl vl vu .none→IsPart vl lo→IsPart vu hi→r x lo hi H Q →
  ∃ T id,typeLookup (.type T) "__getitem__" = pure (some (.builtin id))∧s.TypeIs v T∧wpAny (model X.prog X.w) X.A (getItem v (.ref sl)) (EP X pins σ Q) X.xe s
def tSl (r:V→Option Int→Option Int→Hp→VK→Prop) (te:TE) (tl th:TO):TE:=fun σ H Q=>te σ H fun x H1=>tl σ H1 fun l H2=>th σ H2 fun u H3=>r x l u H3 Q
theorem Vv {r:V→Option Int→Option Int→Hp→VK→Prop} (hr:SlR X r) (he:PE X e te) (hl:PO X lo tl) (hu:PO X hi th):PE X (.Subscript e (.Slice lo hi none p2) pos) (tSl r te tl th):=by
 intro pins s σ H Q I h
 refine Subscript_ (thn (he pins s σ H _ I h) fun v s1 ⟨x,H1,I1,r1,q1⟩=>?_)
 refine wpAny_Slice (thn (hl pins s1 σ H1 _ I1 q1) fun vl s2 ⟨l,H2,I2,pl,q2⟩=>thn (hu pins s2 σ H2 _ I2 q2) fun vu s3 ⟨u,H3,I3,pu,q3⟩=>?_)
 rw [evalPart_none]
 refine wpAny_pure ?_
 have I4:Inv X pins σ H3 { s3 with heap:=s3.heap.push { cls:=.type "slice",data:=.fields #[vl,vu,.none] } }:=I3.kept (t':=s3.toks) fun b ob q=>Heap.get?_push_of_some _ q
 obtain ⟨T,id,hT,ht,hg⟩:=hr pins { s3 with heap:=s3.heap.push { cls:=.type "slice",data:=.fields #[vl,vu,.none] } } σ H3 x v vl vu l u s3.heap.objs.size Q I4 r1 (Heap.IsSliceOf.new ..) pl pu q3
 show wpAny (model X.prog X.w) X.A (subscriptTail e (.Slice lo hi none p2) v (.ref s3.heap.objs.size)) (EP X pins σ Q) X.xe { s3 with heap:=s3.heap.push { cls:=.type "slice",data:=.fields #[vl,vu,.none] } }
 exact tail_any (ops:=[.ref s3.heap.objs.size,v]) ht hT hg (by with_unfolding_all rfl)
def uU (xs:List V) (lo hi:Option Int):List V:=(xs.drop (HT.jx xs.length 0 lo)).take (HT.jx xs.length xs.length hi - HT.jx xs.length 0 lo)
theorem CN (xs:List V) (lo hi:Option Int):(uU xs lo hi).length≤xs.length:=by
 unfold uU
 rw [List.length_take,List.length_drop]
 omega
def acu (K:PySem.W.Frag):V→Option Int→Option Int→Hp→VK→Prop:=fun x lo hi H Q=>∃ a xs,x=.ref a∧SqT K H a xs ∧
 ¬ (HT.jx xs.length 0 lo=0∧HT.jx xs.length xs.length hi=xs.length)∧∀ p,H p=none→Q (.ref p) (upd H p (.tup (uU xs lo hi)))
theorem aa7:SlR X (acu X.K):=by
 intro pins s σ H x v vl vu lo hi sl Q I rx hs pl pu h
 obtain ⟨a,xs,rfl,hx,hw,q⟩:=h
 cases rx
 obtain ⟨its,r,ht,hz⟩:=I.tuple hx
 have hlen:its.toArray.size=xs.length:=by rw [List.size_toArray];exact r.length.symm
 refine ⟨"tuple",_,PyProof.Rows.slot_tuple_getitem.lookup,ht.typeIs,?_⟩
 refine HT.yK ht hs pl pu (by rw [hlen];exact hw) ?_ (by rw [hlen];exact hz)
 rw [hlen]
 refine ⟨.ref s.heap.objs.size,_,I.laid (t':=s.toks) (o:=.tup (uU xs lo hi)) (fun b ob q=>Heap.get?_push_of_some _ q) (Nat.le_refl _) ?_,rfl,q _ (I.hok.fresh (Nat.le_refl _))⟩
 exact ⟨Nat.le_trans (CN xs lo hi) hz,_,(r.drop (HT.jx xs.length 0 lo)).take (HT.jx xs.length xs.length hi - HT.jx xs.length 0 lo),IsTup.new _ _⟩
end
end L2
namespace L2
open PySem PySem.Spec PyProof.Rows
def ixN (n:Nat) (i:Int):Option Nat:=if 0≤i then (if i<n then some i.toNat else none) else if -(n:Int)≤i then some (i+n).toNat else none
def atI {α:Type} (xs:List α) (i:Int):Option α:=(ixN xs.length i).bind fun j=>xs[j]?
theorem ixN_seq {n:Nat} {i:Int} {j:Nat} (h:ixN n i=some j):seqIndex? i n=some j∧j<n∧-(n:Int)≤i∧i<n:=by
 unfold ixN at h
 by_cases h0:0≤i
 ·rw [if_pos h0] at h
  by_cases h1:i<n
  ·rw [if_pos h1] at h
   have e:i.toNat=j:=Option.some.inj h
   exact ⟨by rw [seqIndex_of h0 h1,e],by omega,by omega,h1⟩
  ·rw [if_neg h1] at h;cases h
 ·rw [if_neg h0] at h
  by_cases h1:-(n:Int)≤i
  ·rw [if_pos h1] at h
   have e:(i+n).toNat=j:=Option.some.inj h
   exact ⟨by rw [seqIndex_neg (by omega) h1,e],by omega,h1,by omega⟩
  ·rw [if_neg h1] at h;cases h
theorem atI_get {α:Type} {xs:List α} {i:Int} {v:α} (h:atI xs i=some v):∃ j,seqIndex? i xs.length=some j∧xs[j]? = some v∧j<xs.length∧-(xs.length:Int)≤i∧i<xs.length:=by
 unfold atI at h
 cases e:ixN xs.length i with
 | none=>rw [e] at h;cases h
 | some j =>
  rw [e] at h
  obtain ⟨h1,h2,h3,h4⟩:=ixN_seq e
  exact ⟨j,h1,h,h2,h3,h4⟩
theorem atI_nat {α:Type} {xs:List α} {j:Nat} {v:α} (h:xs[j]? = some v):atI xs (j:Int)=some v:=by
 have hj:j<xs.length:=(List.getElem?_eq_some_iff.mp h).1
 have e:ixN xs.length (j:Int)=some j:=by
  unfold ixN
  rw [if_pos (by omega),if_pos (by omega)];simp
 unfold atI;rw [e];exact h
def PlainIx (b:Expr):Prop:=∀ o i,subscripted b false o i=operate [o,i] (getItem o i)
def IxR (X:Cx) (r:R2):Prop :=
 ∀ (value slice:Expr) (pins:List (Addr×Obj)) (s:Shared) (σ:St) (H:Hp) (x y:V) (v u:Value) (Q:VK),Inv X pins σ H s→RelV x v→RelV y u→r x y H Q →
  subscripted slice false v u=operate [v,u] (getItem v u)→wpAny (model X.prog X.w) X.A (subscriptTail value slice v u) (EP X pins σ Q) X.xe s
def MtR (X:Cx) (id:String) (r:V→List V→Hp→VK→Prop):Prop :=
 ∀ (pins:List (Addr×Obj)) (s:Shared) (σ:St) (H:Hp) (x:V) (xs:List V) (v:Value) (us:List Value) (Q:VK),Inv X pins σ H s→RelV x v→Vals xs us→r x xs H Q →
  wpAny (model X.prog X.w) X.A (call (.builtin id) (v::us)) (EP X pins σ Q) X.xe s
section
variable {X:Cx} {a b:Expr} {ta tb:TE} {pos:Pos}
theorem pe_ix {r:R2} (hr:IxR X r) (ha:PE X a ta) (hb:PE X b tb) (hs:PlainIx b):PE X (.Subscript a b pos) (tOp r ta tb):=by
 intro pins s σ H Q I h
 exact Subscript_ (binT ha hb I h fun v u s2 x y H2 I2 rx ry q=>hr a b pins s2 σ H2 x y v u Q I2 rx ry q (hs _ _))
def rIxL (K:PySem.W.Frag):R2:=fun x y H Q=>∃ p xs i v,x=.ref p∧y=.int i∧SqL K H p xs∧atI xs i=some v∧Q v H
def adR (K:PySem.W.Frag):R2:=fun x y H Q=>∃ p xs i v,x=.ref p∧y=.int i∧SqT K H p xs∧atI xs i=some v∧Q v H
theorem ix_list:IxR X (rIxL X.K):=by
 intro value slice pins s σ H x y v u Q I rx ry h hs
 obtain ⟨p,xs,i,z,rfl,rfl,hq,he,q⟩:=h
 cases rx
 obtain ⟨t,rfl⟩:=ry
 obtain ⟨its,r,pl,hz⟩:=I.list hq
 obtain ⟨j,h1,h2,h3,h4,h5⟩:=atI_get he
 obtain ⟨w,ew,rw'⟩:=r.get h2
 have hl:=r.length
 have hn:=line63
 have fin:EP X pins σ Q w s:=⟨z,H,I,rw',q⟩
 by_cases h0:0≤i
 ·have hj:i.toNat=j:=by
   rw [seqIndex_of h0 h5] at h1
   exact Option.some.inj h1
  exact item_listR pl.isList h0 (by omega) (by rw [hj];simpa using ew) fin hs
 ·have hj:(i+(its.toArray.size:Int)).toNat=j:=by
   rw [seqIndex_neg (by omega) h4] at h1
   rw [List.size_toArray,←hl]
   exact Option.some.inj h1
  exact subscriptTail_builtinR (x:=w) pl.isList.typeIs slot_list_getitem.lookup
   (wpAny_getItem_list_neg (Q:=fun r s'=>r=w∧EP X pins σ Q r s') pl.isList (by omega) (by rw [List.size_toArray] <;> omega) (by omega) (by rw [hj];simpa using ew) ⟨rfl,fin⟩) hs
theorem aa8:IxR X (adR X.K):=by
 intro value slice pins s σ H x y v u Q I rx ry h hs
 obtain ⟨p,xs,i,z,rfl,rfl,hq,he,q⟩:=h
 cases rx
 obtain ⟨t,rfl⟩:=ry
 obtain ⟨its,r,pl,hz⟩:=I.tuple hq
 obtain ⟨j,h1,h2,h3,h4,h5⟩:=atI_get he
 obtain ⟨w,ew,rw'⟩:=r.get h2
 have hl:=r.length
 have hn:=line63
 have fin:EP X pins σ Q w s:=⟨z,H,I,rw',q⟩
 exact subscriptTail_builtinR (x:=w) pl.typeIs slot_tuple_getitem.lookup
  (getItem_tuple (j:=j) (Q:=fun r s'=>r=w∧EP X pins σ Q r s') pl (by omega) (by omega) (by rw [List.size_toArray,←hl];exact h1) (by simpa using ew) ⟨rfl,fin⟩) hs
theorem O5 (its:List Value) (n j:Nat) (u:Value):Obj.mapSeq (·.setIfInBounds j u) { cls:=.type "list",data:=.seq its.toArray n }={ cls:=.type "list",data:=.seq (its.set j u).toArray n }:=by
 simp [Obj.mapSeq]
theorem Inv.lst {pins:List (Addr×Obj)} {σ:St} {H:Hp} {s:Shared} {p:Addr} {xs:List V} (I:Inv X pins σ H s) (h:H p=some (.lst xs)) :
  ∃ (its:List Value) (n:Nat),Vals xs its∧s.heap.get? p=some { cls:=.type "list",data:=.seq its.toArray n }∧xs.length≤sizeLine:=by
 obtain ⟨z,its,n,r,e⟩:=I.hok p _ h
 exact ⟨its,n,r,e,z⟩
theorem Inv.aa9 {pins:List (Addr×Obj)} {σ:St} {H:Hp} {s:Shared} {p:Addr} {xs ys:List V} {its its':List Value} {n n':Nat} {f:Obj→Obj} (I:Inv X pins σ H s) (h:H p=some (.lst xs))
  (ho:s.heap.get? p=some { cls:=.type "list",data:=.seq its.toArray n }) (hf:f { cls:=.type "list",data:=.seq its.toArray n }={ cls:=.type "list",data:=.seq its'.toArray n' }) (r:Vals ys its') (hz:ys.length≤sizeLine) (t:Nat) :
  Inv X pins σ (upd H p (.lst ys)) { s with heap:=s.heap.update p f,toks:=t }:=by
 have e:(s.heap.update p f).get? p=some { cls:=.type "list",data:=.seq its'.toArray n' }:=by
  rw [Heap.get?_update_self f ho (by rw [hf] <;> rfl),hf]
 refine I.write (x:=p) (e:=p) (by rw [h];trivial) (.inl rfl) (fun b u hb q=>(Heap.get?_update_other _ _ (Ne.symm hb)).trans q) ⟨_,e⟩ ?_
 exact ⟨hz,its',n',r,e⟩
def Q0:V→V→V→Hp→(Hp→Prop)→Prop:=fun o i v H Q=>∃ p xs k j,o=.ref p∧i=.int k∧H p=some (.lst xs)∧ixN xs.length k=some j∧Q (upd H p (.lst (xs.set j v)))
theorem set_list:Vk X Q0:=by
 intro pins s σ H o i v ov iv u Q I ro ri rv h
 obtain ⟨p,xs,k,j,rfl,rfl,hp,hj,q⟩:=h
 cases ro
 obtain ⟨t,rfl⟩:=ri
 obtain ⟨its,n,r,ho,hz⟩:=I.lst hp
 obtain ⟨h1,h2,h3,h4⟩:=ixN_seq hj
 have hl:=r.length
 have hn:=line63
 have I':Inv X pins σ (upd H p (.lst (xs.set j v))) { s with heap:=s.heap.update p (Obj.mapSeq (·.setIfInBounds j u)) } :=
  I.aa9 hp ho (O5 its n j u) (r.set rv j) (by rw [List.length_set];exact hz) s.toks
 by_cases h0:0≤k
 ·have hk:k.toNat=j:=by
   rw [seqIndex_of h0 h4] at h1
   exact Option.some.inj h1
  exact PySem.W.ki_setAt ho h0 (by omega) (by rw [List.size_toArray,←hl];exact h4) (by rw [hk];exact ⟨_,I',q⟩)
 ·have hk:(k+(its.toArray.size:Int)).toNat=j:=by
   rw [seqIndex_neg (by omega) h3] at h1
   rw [List.size_toArray,←hl]
   exact Option.some.inj h1
  exact PySem.W.ki_setBack ho (by omega) (by rw [List.size_toArray,←hl];exact h3) (by omega) (by rw [hk];exact ⟨_,I',q⟩)
theorem JV (lo hi:Option Int) (n:Nat):(sliceBounds lo hi none n).1=((HT.jx n 0 lo:Nat):Int)∧(sliceBounds lo hi none n).2.1=((HT.jx n n hi:Nat):Int)∧(sliceBounds lo hi none n).2.2=1:=by
 refine ⟨?_,?_,rfl⟩
 ·cases lo with
  | none=>simp [sliceBounds,HT.jx]
  | some i =>
   simp only [sliceBounds,HT.jx,Option.getD_none,show (1:Int) > 0 by decide,if_true]
   by_cases h:i<0
   ·simp only [h,if_true] <;> omega
   ·simp only [h,if_false] <;> omega
 ·cases hi with
  | none=>simp [sliceBounds,HT.jx]
  | some i =>
   simp only [sliceBounds,HT.jx,Option.getD_none,show (1:Int) > 0 by decide,if_true]
   by_cases h:i<0
   ·simp only [h,if_true] <;> omega
   ·simp only [h,if_false] <;> omega
theorem Hu (its:List Value) (lo hi:Option Int):slicePick its.toArray lo hi none=((its.drop (HT.jx its.length 0 lo)).take (HT.jx its.length its.length hi - HT.jx its.length 0 lo)).toArray:=by
 obtain ⟨h1,h2,h3⟩:=JV lo hi its.toArray.size
 unfold slicePick
 rw [h1,h2,h3]
 simp only [sliceRange_one,pick_run,List.size_toArray] <;> rfl
def YZ (K:PySem.W.Frag):V→Option Int→Option Int→Hp→VK→Prop:=fun x lo hi H Q=>∃ a xs,x=.ref a∧SqL K H a xs∧∀ p,H p=none→Q (.ref p) (upd H p (.lst (uU xs lo hi)))
theorem Q5:SlR X (YZ X.K):=by
 intro pins s σ H x v vl vu lo hi sl Q I rx hs pl pu h
 obtain ⟨a,xs,rfl,hx,q⟩:=h
 cases rx
 obtain ⟨its,r,ht,hz⟩:=I.list hx
 have hlen:=r.length
 refine ⟨"list",_,slot_list_getitem.lookup,ht.isList.typeIs,?_⟩
 refine wpAny_getItem_list_slice ht.isList hs pl pu .none (by simp) ?_ (by rw [List.size_toArray] <;> omega)
 rw [Hu,←hlen]
 refine ⟨.ref s.heap.objs.size,_,I.laid (t':=s.toks) (o:=.lst (uU xs lo hi)) (fun b ob q=>Heap.get?_push_of_some _ q) (Nat.le_refl _) ?_,rfl,q _ (I.hok.fresh (Nat.le_refl _))⟩
 exact ⟨Nat.le_trans (CN xs lo hi) hz,_,0,(r.drop (HT.jx xs.length 0 lo)).take (HT.jx xs.length xs.length hi - HT.jx xs.length 0 lo),Heap.get?_push_size _ rfl⟩
def u5:V→Bool
 | .non=>true
 | .bl _=>true
 | .int _=>true
 | .str _=>true
 | _=>false
def Q6:V→V→Bool
 | .non,.non=>true
 | .bl a,.bl b=>a == b
 | .bl a,.int b=>(if a then 1 else 0) == b
 | .int a,.bl b=>a == (if b then 1 else 0)
 | .int a,.int b=>a == b
 | .str a,.str b=>a == b
 | _,_=>false
theorem abb {A:Around} {s:Shared} {y x:V} {u v:Value} (ry:RelV y u) (rx:RelV x v) (fy:u5 y=true) (fx:u5 x=true):SeqAt.EqAt A s u v (Q6 y x):=by
 cases y with
 | non =>
  cases ry
  cases x with
  | non=>cases rx;exact SeqAt.EqAt.same _
  | bl b=>cases rx;exact SeqAt.EqAt.none_bool b
  | int b=>obtain ⟨t,rfl⟩:=rx;exact SeqAt.EqAt.none_int b t
  | str b=>obtain ⟨t,rfl⟩:=rx;exact SeqAt.EqAt.none_str b t
  | _=>exact absurd (show false=true from fx) Bool.false_ne_true
 | bl a =>
  cases ry
  cases x with
  | non=>cases rx;exact SeqAt.EqAt.bool_none a
  | bl b=>cases rx;exact SeqAt.EqAt.bool_bool a b
  | int b=>obtain ⟨t,rfl⟩:=rx;exact SeqAt.EqAt.bool_int a b t
  | str b=>obtain ⟨t,rfl⟩:=rx;exact SeqAt.EqAt.bool_str a b t
  | _=>exact absurd (show false=true from fx) Bool.false_ne_true
 | int a =>
  obtain ⟨t',rfl⟩:=ry
  cases x with
  | non=>cases rx;exact SeqAt.EqAt.int_none a t'
  | bl b=>cases rx;exact SeqAt.EqAt.int_bool a t' b
  | int b=>obtain ⟨t,rfl⟩:=rx;exact SeqAt.EqAt.int_int a t' b t
  | str b=>obtain ⟨t,rfl⟩:=rx;exact SeqAt.EqAt.int_str a t' b t
  | _=>exact absurd (show false=true from fx) Bool.false_ne_true
 | str a =>
  obtain ⟨t',rfl⟩:=ry
  cases x with
  | non=>cases rx;exact SeqAt.EqAt.str_none a t'
  | bl b=>cases rx;exact SeqAt.EqAt.str_bool a t' b
  | int b=>obtain ⟨t,rfl⟩:=rx;exact SeqAt.EqAt.str_int a t' b t
  | str b=>obtain ⟨t,rfl⟩:=rx;exact SeqAt.EqAt.str_str a t' b t
  | _=>exact absurd (show false=true from fx) Bool.false_ne_true
 | _=>exact absurd (show false=true from fy) Bool.false_ne_true
def Vw (x:V) (u:Value):Bool:=match u with
 | .none=>Q6 .non x
 | .bool b=>Q6 (.bl b) x
 | .int i _=>Q6 (.int i) x
 | .str z _=>Q6 (.str z) x
 | _=>false
theorem O6 {x y:V} {u:Value} (r:RelV y u) (f:u5 y=true):Vw x u=Q6 y x:=by
 cases y with
 | non=>cases r;rfl
 | bl b=>cases r;rfl
 | int i=>obtain ⟨t,rfl⟩:=r;rfl
 | str z=>obtain ⟨t,rfl⟩:=r;rfl
 | _=>exact absurd (show false=true from f) Bool.false_ne_true
theorem JW {x:V}:∀ {xs:List V} {us:List Value},Vals xs us→xs.all u5=true→us.any (Vw x)=xs.any fun y=>Q6 y x
 | _,_,.nil,_=>rfl
 | y::xs,u::us,.cons r t,f=>by
  rw [List.all_cons,Bool.and_eq_true] at f
  rw [List.any_cons,List.any_cons,O6 r f.1,JW t f.2]
theorem yL {A:Around} {s:Shared} {x:V} {v:Value} (rx:RelV x v) (fx:u5 x=true):∀ {xs:List V} {us:List Value},Vals xs us→xs.all u5=true→∀ u∈us,SeqAt.EqAt A s u v (Vw x u)
 | _,_,.nil,_=>fun u hu=>by cases hu
 | y::xs,u::us,.cons r t,f=>fun u' hu=>by
  rw [List.all_cons,Bool.and_eq_true] at f
  rcases List.mem_cons.mp hu with rfl | hu
  ·rw [O6 r f.1];exact abb r rx f.1 fx
  ·exact yL rx fx t f.2 u' hu
def inV (x:V) (xs:List V):Bool:=xs.any fun y=>Q6 y x
def rIn (K:PySem.W.Frag) (neg:Bool):R2:=fun x y H Q=>∃ p xs,y=.ref p∧(SqL K H p xs∨SqT K H p xs)∧u5 x=true∧xs.all u5=true∧Q (.bl (if neg then !inV x xs else inV x xs)) H
theorem Ud:OpR X (compareOp .In) (rIn X.K false):=by
 intro pins s σ H x y v u Q I rx ry h
 obtain ⟨p,xs,rfl,hq,fx,fs,q⟩:=h
 cases ry
 rcases hq with hq | hq
 ·obtain ⟨its,r,pl,hz⟩:=I.list hq
  refine SeqAt.in_listAt (Vw x) pl.isList (fun w hw=>yL rx fx r fs w (by simpa using hw)) ⟨.bl _,H,I,rfl,?_⟩
  rw [show its.toArray.any (Vw x)=its.any (Vw x) by simp,JW r fs]
  exact q
 ·obtain ⟨its,r,pl,hz⟩:=I.tuple hq
  refine SeqAt.in_tupleAt (Vw x) pl (fun w hw=>yL rx fx r fs w (by simpa using hw)) ⟨.bl _,H,I,rfl,?_⟩
  rw [show its.toArray.any (Vw x)=its.any (Vw x) by simp,JW r fs]
  exact q
theorem call_len_seq:CallR X (.builtin "len") (fun xs H Q=>∃ p ys,xs=[.ref p]∧(SqL X.K H p ys∨SqT X.K H p ys)∧Q (.int ys.length) H):=by
 intro pins s σ H xs us Q I r h
 obtain ⟨p,ys,rfl,hq,q⟩:=h
 obtain ⟨u,rfl,rx⟩:=vals1 r
 cases rx
 have hn:=line63
 rcases hq with hq | hq
 ·obtain ⟨its,r',pl,hz⟩:=I.list hq
  have hlen:=r'.length
  exact Calls.call_len_list pl.isList (by simp only [List.size_toArray] <;> omega) ⟨.int ys.length,H,I.tok _,⟨s.toks+1,by rw [List.size_toArray,hlen]⟩,q⟩
 ·obtain ⟨its,r',pl,hz⟩:=I.tuple hq
  have hlen:=r'.length
  exact len_tuple pl (by simp only [List.size_toArray] <;> omega) ⟨.int ys.length,H,I.tok _,⟨s.toks+1,by rw [List.size_toArray,hlen]⟩,q⟩
theorem JX:CallR X (.type "list") (fun xs H Q=>∃ p ys,xs=[.ref p]∧(SqL X.K H p ys∨SqT X.K H p ys)∧∀ l,H l=none→Q (.ref l) (upd H l (.lst ys))):=by
 intro pins s σ H xs us Q I r h
 obtain ⟨p,ys,rfl,hq,q⟩:=h
 obtain ⟨u,rfl,rx⟩:=vals1 r
 cases rx
 have fin:∀ (its:List Value),Vals ys its→ys.length≤sizeLine→∀ (h':Heap) (c':Nat),(∀ b o',s.heap.get? b=some o'→h'.get? b=some o') →
   h'.get? s.heap.objs.size=some { cls:=.type "list",dict:=none,data:=.seq its.toArray c',slots:=#[] }→EP X pins σ Q (.ref s.heap.objs.size) { s with heap:=h' }:=fun its r' hz h' c' kp e =>
  ⟨.ref s.heap.objs.size,_,I.laid (t':=s.toks) kp (Nat.le_refl _) (show ObjOk X.prog X.w _ h' _ (.lst ys) from ⟨hz,its,c',r',e⟩),rfl,q _ (I.hok.fresh (Nat.le_refl _))⟩
 rcases hq with hq | hq
 ·obtain ⟨its,r',pl,hz⟩:=I.list hq
  have hlen:=r'.length
  obtain ⟨o,ho,hc,n,hd⟩:=pl.isList
  exact call_list_seq p (.inl rfl) ho hc hd (fun h' c' kp e=>fin its r' hz h' c' kp e) (by simp only [List.size_toArray] <;> omega)
 ·obtain ⟨its,r',pl,hz⟩:=I.tuple hq
  have hlen:=r'.length
  obtain ⟨o,ho,hc,n,hd⟩:=pl
  exact call_list_seq p (.inr rfl) ho hc hd (fun h' c' kp e=>fin its r' hz h' c' kp e) (by simp only [List.size_toArray] <;> omega)
theorem Hv:CallR X (.type "tuple") (fun xs H Q=>∃ p ys,xs=[.ref p]∧((SqL X.K H p ys∧∀ l,H l=none→Q (.ref l) (upd H l (.tup ys)))∨(SqT X.K H p ys∧Q (.ref p) H))):=by
 intro pins s σ H xs us Q I r h
 obtain ⟨p,ys,rfl,h⟩:=h
 obtain ⟨u,rfl,rx⟩:=vals1 r
 cases rx
 rcases h with ⟨hq,q⟩ | ⟨hq,q⟩
 ·obtain ⟨its,r',pl,hz⟩:=I.list hq
  have hlen:=r'.length
  refine call_tuple_list pl.isList (fun h' kp=>?_) (by simp only [List.size_toArray] <;> omega)
  have I1:Inv X pins σ H { s with heap:=h' }:=I.kept (t':=s.toks) kp
  have I2:Inv X pins σ (upd H h'.objs.size (.tup ys)) { s with heap:=h'.push { cls:=.type "tuple",data:=.seq its.toArray } } :=
   I1.laid (t':=s.toks) (fun b o e=>Heap.get?_push_of_some _ e) (Nat.le_refl _) (show ObjOk X.prog X.w _ _ _ (.tup ys) from ⟨hz,its,r',IsTup.new _ _⟩)
  exact ⟨.ref h'.objs.size,_,I2,rfl,q _ (I1.hok.fresh (Nat.le_refl _))⟩
 ·obtain ⟨its,r',pl,hz⟩:=I.tuple hq
  exact call_tuple_same pl ⟨.ref p,H,I,rfl,q⟩
def Y0 (K:PySem.W.Frag) (T:String) (x:V) (H:Hp):Prop:=match x with
 | .str _=>T = "str"
 | .int _=>T = "int"
 | .ref p=>(T = "list"∧∃ xs,SqL K H p xs)∨(T = "tuple"∧∃ o,K.lookup p=some o∧o.cls=.type "tuple"∧o.dict=none) ∨
   (T = "dict"∧((∃ kvs,H p=some (.dK kvs))∨∃ kvs,H p=some (.dT kvs)))∨(T = "set"∧∃ S n,H p=some (.set S n))
 | _=>False
theorem Vx {pins:List (Addr×Obj)} {σ:St} {H:Hp} {s:Shared} {T:String} {x:V} {v:Value} (I:Inv X pins σ H s) (r:RelV x v) (ty:Y0 X.K T x H) :
  s.TypeIs v T∧∀ a,v=.ref a→∃ ob,s.heap.get? a=some ob∧ob.dict=none:=by
 cases x with
 | str z =>
  obtain ⟨t,rfl⟩:=r
  cases (show T = "str" from ty)
  exact ⟨typeIs_str s z t,fun _ e=>nomatch e⟩
 | int i =>
  obtain ⟨t,rfl⟩:=r
  cases (show T = "int" from ty)
  exact ⟨typeIs_int s i t,fun _ e=>nomatch e⟩
 | ref p =>
  cases r
  rcases ty with ⟨rfl,xs,hq⟩ | ⟨rfl,o,hk,hc,hd⟩ | ⟨rfl,hk⟩ | ⟨rfl,S,n,hk⟩
  ·obtain ⟨its,_,pl,_⟩:=I.list hq
   refine ⟨pl.isList.typeIs,fun a e=>?_⟩
   cases e
   obtain ⟨o,n,e,c,hd,_⟩:=pl
   exact ⟨o,e,hd⟩
  ·refine ⟨⟨o,I.kIn p o hk,hc⟩,fun a e=>?_⟩
   cases e
   exact ⟨o,I.kIn _ o hk,hd⟩
  ·have z:∃ o,s.heap.get? p=some o∧o.ExactDict:=by
    rcases hk with ⟨kvs,hk⟩ | ⟨kvs,hk⟩
    ·obtain ⟨_,_,_,_,o,_,_,e,ex,_⟩:=I.hok p _ hk
     exact ⟨o,e,ex⟩
    ·obtain ⟨_,_,_,_,o,_,_,e,ex,_⟩:=I.hok p _ hk
     exact ⟨o,e,ex⟩
   obtain ⟨o,e,ex⟩:=z
   refine ⟨⟨o,e,ex.1⟩,fun a e2=>?_⟩
   cases e2
   exact ⟨o,e,ex.2.1⟩
  ·obtain ⟨o,_,_,_,e,ex,_⟩:=I.hok p _ hk
   refine ⟨⟨o,e,ex.1⟩,fun a e2=>?_⟩
   cases e2
   exact ⟨o,e,ex.2.1⟩
 | _=>exact False.elim ty
def abd (K:PySem.W.Frag) (T:String) (r:V→List V→Hp→VK→Prop) (to:TE):TE:=fun σ H Q=>to σ H fun x H1=>Y0 K T x H1∧r x [] H1 Q
def tBM (K:PySem.W.Frag) (T:String) (r:V→List V→Hp→VK→Prop) (to:TE) (t:TA):TE:=fun σ H Q=>to σ H fun x H1=>Y0 K T x H1∧t σ H1 fun xs H2=>r x xs H2 Q
variable {o e:Expr} {es:List Expr} {to:TE} {t:TA} {name:Str} {apos cpos:Pos} {T id:String} {r:V→List V→Hp→VK→Prop}
theorem abf (pa:PlainAttrs T) (slot:Slot T name id) (hty:typeOf (.builtin id)=pure (.type "method_descriptor")) (hm:MtR X id r) (ho:PE X o to)
  (hbase:attributeBase o name X.env (eval o X.env)=eval o X.env:=by rfl) (hline:(apos.endLine == cpos.line)=true:=by rfl):PE X (.Call (.Attribute o name apos) [] [] cpos) (abd X.K T r to):=by
 intro pins s σ H Q I h
 refine wpAny_Call_method0_late hbase hline (thn (ho pins s σ H _ I h) fun v s1 ⟨x,H1,I1,r1,ty,q1⟩=>?_)
 obtain ⟨h1,h2⟩:=Vx I1 r1 ty
 exact ⟨T,id,pa,slot,hty,h1,h2,Calls.callWith_builtin rfl (PySem.evalArgs_none (hm pins s1 σ H1 x [] v [] Q I1 r1 .nil q1))⟩
theorem acv (pa:PlainAttrs T) (slot:Slot T name id) (hty:typeOf (.builtin id)=pure (.type "method_descriptor")) (hm:MtR X id r) (ho:PE X o to) (ha:PA X (e::es) t)
  (hbase:attributeBase o name X.env (eval o X.env)=eval o X.env:=by rfl)
  (hfew:((backTo cpos (starEach (e::es) X.env)).all (fun x=>!x.1) && (backToKw cpos (keywordEach [] X.env)).all (fun x=>x.1.isSome)
   && decide ((e::es).length+([]:List Keyword).length+(if ([]:List Keyword).isEmpty then 0 else 1)<30))=true:=by rfl)
  (hline:(apos.endLine == cpos.line)=true:=by rfl) (hs:starEach (e::es) X.env=(false,eval e X.env)::starEach es X.env:=by rfl) (hplain:(backTo cpos (starEach es X.env)).any (·.1)=false:=by rfl) :
  PE X (.Call (.Attribute o name apos) (e::es) [] cpos) (tBM X.K T r to t):=by
 intro pins s σ H Q I h
 refine wpAny_Call_method_late hbase hfew hline rfl (thn (ho pins s σ H _ I h) fun v s1 ⟨x,H1,I1,r1,ty,q1⟩=>?_)
 obtain ⟨h1,h2⟩:=Vx I1 r1 ty
 refine ⟨T,id,pa,slot,hty,h1,h2,?_⟩
 have hA:=ha cpos pins s1 σ H1 _ I1 q1
 rw [hs] at hA ⊢
 refine Calls.callWith_builtin (by show (false || (backTo cpos (starEach es X.env)).any (·.1))=false;rw [hplain] <;> rfl) (Calls.evalArgs_plain ?_)
 exact thn hA fun us s2 ⟨vs,H2,I2,r2,q2⟩=>hm pins s2 σ H2 x vs v us Q I2 r1 r2 q2
/- xs.append(e),list.index on a module's tuple .. are MtR facts of 06m -/
end
end L2
namespace L2
open PySem PySem.Spec PyProof.Rows
def MtM (X:Cx) (id:String) (r:V→List V→Hp→VK→Prop):Prop :=
 ∀ (pins:List (Addr×Obj)) (s:Shared) (σ:St) (H:Hp) (x:V) (xs:List V) (v:Value) (us:List Value) (Q:VK),Inv X pins σ H s→RelV x v→Vals xs us→r x xs H Q →
  wpAny (model X.prog X.w) X.A (call (.builtin id) (v::us)) (EP X pins σ Q) X.xe s
theorem Vals.one:∀ {x:V} {us:List Value},Vals [x] us→∃ u,us=[u]∧RelV x u
 | _,_,.cons r .nil=>⟨_,rfl,r⟩
theorem Vals.zero:∀ {us:List Value},Vals [] us→us=[]
 | _,.nil=>rfl
theorem Vals.eraseIdx:∀ {xs:List V} {us:List Value} (i:Nat),Vals xs us→Vals (xs.eraseIdx i) (us.eraseIdx i)
 | _,_,_,.nil=>.nil
 | _,_,0,.cons _ t=>t
 | _,_,i+1,.cons r t=>.cons r (Vals.eraseIdx i t)
theorem Vals.reverse {xs:List V} {us:List Value} (h:Vals xs us):Vals xs.reverse us.reverse:=by
 induction h with
 | nil=>exact .nil
 | cons r t ih=>rw [List.reverse_cons,List.reverse_cons];exact Vals.append ih (.cons r .nil)
theorem Vals.rep {xs:List V} {us:List Value} (h:Vals xs us):∀ k:Nat,Vals (List.replicate k xs).flatten (List.replicate k us).flatten
 | 0=>.nil
 | k+1=>by
  rw [List.replicate_succ,List.replicate_succ,List.flatten_cons,List.flatten_cons]
  exact Vals.append h (Vals.rep h k)
theorem Iz {α:Type}:∀ (l:List α) (i:Nat),(l.eraseIdx i).length≤l.length
 | [],_=>Nat.le_refl _
 | _::_,0=>Nat.le_succ _
 | _::r,i+1=>Nat.succ_le_succ (Iz r i)
theorem foldl_rep (its:List Value):∀ (k:Nat) (acc:List Value),
  List.foldl (fun x1 x2=>x1++x2) acc.toArray (List.replicate k its.toArray)=(acc++(List.replicate k its).flatten).toArray
 | 0,acc=>by simp
 | k+1,acc=>by
  have e:acc.toArray++its.toArray=(acc++its).toArray:=by simp
  have e2:(acc++its)++(List.replicate k its).flatten=acc++(List.replicate (k+1) its).flatten:=by
   rw [List.replicate_succ,List.flatten_cons,List.append_assoc]
  rw [←e2,←foldl_rep its k (acc++its),←e,List.replicate_succ,List.foldl_cons]
section
variable {X:Cx} {pins:List (Addr×Obj)} {σ:St} {H:Hp} {s:Shared} {l b:Addr} {xs ys zs:List V}
theorem Inv.abg {its its':List Value} {n:Nat} {f:Array Value→Array Value} {t':Nat} (I:Inv X pins σ H s) (hH:H l=some (.lst xs))
  (e:s.heap.get? l=some { cls:=.type "list",data:=.seq its.toArray n }) (hf:f its.toArray=its'.toArray) (hv:Vals ys its') (hz:ys.length≤sizeLine) :
  Inv X pins σ (upd H l (.lst ys)) { s with heap:=s.heap.update l (Obj.mapSeq f),toks:=t' }:=by
 have q:=PySem.IsL.update e f
 rw [hf] at q
 refine I.write (x:=l) (e:=l) (by rw [hH];exact trivial) (.inl rfl) (fun b' u hb hu=>(Heap.get?_update_other s.heap (Obj.mapSeq f) (Ne.symm hb)).trans hu) ⟨_,q⟩ ?_
 exact ⟨hz,its',_,hv,q⟩
theorem Inv.lnew {its:List Value} {t':Nat} (I:Inv X pins σ H s) (hv:Vals ys its) (hz:ys.length≤sizeLine) :
  Inv X pins σ (upd H s.heap.objs.size (.lst ys)) { s with heap:=s.heap.push { cls:=.type "list",data:=.seq its.toArray },toks:=t' } :=
 I.laid (fun _ _ q=>Heap.get?_push_of_some _ q) (Nat.le_refl _) ⟨hz,its,0,hv,Heap.get?_push_size _ rfl⟩
theorem Inv.fresh (I:Inv X pins σ H s):H s.heap.objs.size=none:=I.hok.fresh (Nat.le_refl _)
theorem Inv.lstM (I:Inv X pins σ H s) (hH:H l=some (.lst xs)):xs.length≤sizeLine∧∃ (its:List Value) (n:Nat),Vals xs its∧xs.length=its.length∧s.heap.get? l=some { cls:=.type "list",data:=.seq its.toArray n }:=by
 obtain ⟨z,its,n,r,e⟩:=I.hok l _ hH
 exact ⟨z,its,n,r,r.length,e⟩
theorem Vy {n:Nat} (h:n≤sizeLine):Builtin.List.listTooLong n=false:=by
 unfold Builtin.List.listTooLong
 exact decide_eq_false (by omega)
end
section
variable {X:Cx}
def yM:V→List V→Hp→VK→Prop:=fun x vs H Q=>∃ l xs y,x=.ref l∧vs=[y]∧H l=some (.lst xs)∧xs.length<sizeLine∧Q .non (upd H l (.lst (xs++[y])))
theorem bN:MtM X "list.append" yM:=by
 intro pins s σ H x vs v us Q I rx rv h
 obtain ⟨l,xs,y,rfl,rfl,hH,hz,q⟩:=h
 cases rx
 obtain ⟨u,rfl,ru⟩:=rv.one
 obtain ⟨z,its,n,r,hl,e⟩:=I.lstM hH
 refine call_meets F.slot_list_append ⟨_,e,rfl⟩ F.entry_list_append (F.args_list_append_2 _ _) (PySem.list_append l its.toArray n u (by rw [List.size_toArray];omega)) ⟨e,?_⟩
 refine ⟨.non,_,I.abg (its':=its++[u]) hH e (by simp) (r.append (.cons ru .nil)) ?_,rfl,q⟩
 rw [List.length_append,List.length_singleton]
 omega
def Vz:V→List V→Hp→VK→Prop:=fun x vs H Q=>∃ l xs i k y,x=.ref l∧vs=[.int i]∧H l=some (.lst xs)∧-(2 ^ 63)≤i∧i<2 ^ 63∧seqIndex? i xs.length=some k∧xs[k]? = some y∧Q y (upd H l (.lst (xs.eraseIdx k)))
theorem VB:MtM X "list.pop" Vz:=by
 intro pins s σ H x vs v us Q I rx rv h
 obtain ⟨l,xs,i,k,y,rfl,rfl,hH,h1,h2,hk,hy,q⟩:=h
 cases rx
 obtain ⟨u,rfl,ru⟩:=rv.one
 obtain ⟨t,rfl⟩:=ru
 obtain ⟨z,its,n,r,hl,e⟩:=I.lstM hH
 obtain ⟨w,hw,rw'⟩:=r.get hy
 refine call_meets F.slot_list_pop ⟨_,e,rfl⟩ F.entry_list_pop (F.args_list_pop_2 _ _)
  (MeetsSeq.list_pop_at l its.toArray n i t k w (fitsIndex_both h1 h2) (by rw [List.size_toArray,←hl];exact hk) (by rw [←Array.getElem?_toList];exact hw) (by rw [List.size_toArray];omega)) ⟨e,?_⟩
 refine ⟨y,_,I.abg (its':=its.eraseIdx k) hH e ?_ (r.eraseIdx k) ?_,rw',q⟩
 ·show its.toArray.eraseIdxIfInBounds k=(its.eraseIdx k).toArray
  rw [List.eraseIdxIfInBounds_toArray]
 ·have:=Iz xs k
  omega
def Lq:V→List V→Hp→VK→Prop:=fun x vs H Q=>∃ l xs,x=.ref l∧vs=[]∧H l=some (.lst xs)∧Q .non (upd H l (.lst xs.reverse))
theorem O7:MtM X "list.reverse" Lq:=by
 intro pins s σ H x vs v us Q I rx rv h
 obtain ⟨l,xs,rfl,rfl,hH,q⟩:=h
 cases rx
 have hus:=rv.zero
 subst hus
 obtain ⟨z,its,n,r,hl,e⟩:=I.lstM hH
 refine call_meets F.slot_list_reverse ⟨_,e,rfl⟩ F.entry_list_reverse (F.args_list_reverse_1 _) (AutoSeq1.list_reverse_list_0 l its.toArray n (by rw [List.size_toArray];omega)) ⟨e,?_⟩
 refine ⟨.non,_,I.abg (its':=its.reverse) hH e (by simp) r.reverse ?_,rfl,q⟩
 rw [List.length_reverse]
 omega
def rCat:R2:=fun x y H Q=>∃ l b xs zs,x=.ref l∧y=.ref b∧H l=some (.lst xs)∧H b=some (.lst zs)∧xs.length+zs.length≤sizeLine∧∀ p,H p=none→Q (.ref p) (upd H p (.lst (xs++zs)))
theorem op_cat:OpR X (binaryOp .Add) rCat:=by
 intro pins s σ H x y v u Q I rx ry h
 obtain ⟨l,b,xs,zs,rfl,rfl,hH,hB,hz,q⟩:=h
 cases rx
 cases ry
 obtain ⟨z,its,n,r,hl,e⟩:=I.lstM hH
 obtain ⟨z2,its2,n2,r2,hl2,e2⟩:=I.lstM hB
 refine PySem.P.add_list e e2 ?_ (by rw [List.size_toArray,List.size_toArray];omega)
 have ea:its.toArray++its2.toArray=(its++its2).toArray:=by simp
 rw [ea]
 exact ⟨.ref _,_,I.lnew (t':=s.toks) (r.append r2) (by rw [List.length_append];omega),rfl,q _ I.fresh⟩
def acy:R2:=fun x y H Q=>∃ l k xs,x=.ref l∧y=.int k∧H l=some (.lst xs)∧-(2 ^ 63)≤k∧k<2 ^ 63∧xs.length*k.toNat≤sizeLine ∧
 ∀ p,H p=none→Q (.ref p) (upd H p (.lst (List.replicate k.toNat xs).flatten))
theorem len_rep {α:Type} (xs:List α) (k:Nat):(List.replicate k xs).flatten.length=k*xs.length:=by
 induction k with
 | zero=>simp
 | succ k ih=>rw [List.replicate_succ,List.flatten_cons,List.length_append,ih,Nat.succ_mul,Nat.add_comm]
theorem O8:OpR X (binaryOp .Mult) acy:=by
 intro pins s σ H x y v u Q I rx ry h
 obtain ⟨l,k,xs,rfl,rfl,hH,h1,h2,hz,q⟩:=h
 cases rx
 obtain ⟨t,rfl⟩:=ry
 obtain ⟨z,its,n,r,hl,e⟩:=I.lstM hH
 have hlen:its.toArray.size*k.toNat≤sizeLine:=by rw [List.size_toArray,←hl];exact hz
 have hcap:¬ its.toArray.size*k.toNat > (2 ^ 63 - 1) / 8:=by
  have:(sizeLine:Nat)≤(2 ^ 63 - 1) / 8:=by decide
  omega
 have hfit:¬ (!Builtin.List.listFitsIndex k)=true:=by
  rw [fitsIndex_both h1 h2]
  exact Bool.false_ne_true
 have acz:¬ Builtin.List.listTooLong (its.toArray.size*k.toNat)=true:=by
  rw [Vy hlen]
  exact Bool.false_ne_true
 have hnew:List.foldl (fun x1 x2=>x1++x2) #[] (List.replicate (if its.toArray.isEmpty=true then 0 else k.toNat) its.toArray)=(List.replicate k.toNat its).flatten.toArray:=by
  have f0:∀ m:Nat,List.foldl (fun x1 x2=>x1++x2) #[] (List.replicate m its.toArray)=(List.replicate m its).flatten.toArray:=fun m=>by
   have:=foldl_rep its m []
   rw [List.nil_append] at this
   exact this
  rw [f0]
  cases its with
  | nil=>simp
  | cons a r'=>rw [if_neg (by simp)]
 refine wpAny_binaryOp_repeat_ref (T:="list") (U:="int") (by decide) ⟨_,e,rfl⟩ (fun s'=>typeIs_int s' k t) noFill_list_mul F.fills_int_mul F.slot_int_rmul repeat_list F.slot_int_index.lookup
  (call_meets F.slot_int_rmul (typeIs_int s k t) F.entry_int_rmul (F.args_int_rmul_2 _ _) (int___rmul___int_list k t l its.toArray n)
   ⟨e,rfl,⟨_,e,rfl⟩,call_meets F.slot_list_mul ⟨_,e,rfl⟩ F.entry_list_mul (F.args_list_mul_2 _ _) (AutoListH.list___mul___list_int_3 l its.toArray n k t hfit hcap acz) ⟨e,?_⟩⟩)
 rw [hnew]
 exact ⟨.ref _,_,I.lnew (t':=s.toks) (r.rep k.toNat) (by rw [len_rep,Nat.mul_comm];exact hz),rfl,q _ I.fresh⟩
end
section
variable {prog:Program} {w:World} {A:Around} {E:Value→Shared→Prop} {s:Shared}
end
section
variable {X:Cx}
end
end L2
namespace L2
open PySem PySem.Spec PyProof.Rows
section
variable {κ:Type} [DecidableEq κ]
def valV (kvs:List (κ×V)) (k:κ):Option V:=(kvs.find? fun kv=>decide (kv.1=k)).map (·.2)
def putK (kvs:List (κ×V)) (k:κ) (v:V):List (κ×V) :=
 if (kvs.any fun kv=>decide (kv.1=k))=true then kvs.map (fun kv=>if kv.1=k then (kv.1,v) else kv) else kvs++[(k,v)]
theorem valV_pos {p:κ×V} {r:List (κ×V)} {k:κ} (e:p.1=k):valV (p::r) k=some p.2:=by simp [valV,List.find?_cons,e]
theorem valV_neg {p:κ×V} {r:List (κ×V)} {k:κ} (e:¬ p.1=k):valV (p::r) k=valV r k:=by simp [valV,List.find?_cons,e]
theorem valV_any (k:κ):∀ kvs:List (κ×V),(kvs.any fun kv=>decide (kv.1=k))=(valV kvs k).isSome
 | []=>rfl
 | p::r=>by
  rw [List.any_cons]
  by_cases e:p.1=k
  ·simp only [valV_pos e,decide_eq_true e,Bool.true_or,Option.isSome_some]
  ·rw [valV_neg e,decide_eq_false e,Bool.false_or];exact valV_any k r
theorem length_putK (kvs:List (κ×V)) (k:κ) (v:V):(putK kvs k v).length≤kvs.length+1:=by
 unfold putK
 split
 ·rw [List.length_map];omega
 ·rw [List.length_append,List.length_cons,List.length_nil];omega
theorem putK_new {kvs:List (κ×V)} {k:κ} (v:V) (h:valV kvs k=none):putK kvs k v=kvs++[(k,v)]:=by
 unfold putK
 rw [valV_any,h]
 exact if_neg (by decide)
theorem RelO.isSome_eq {o:Option V} {u:Option Value} (r:RelO o u):o.isSome=u.isSome:=by
 cases o with
 | none=>cases u with
  | none=>rfl
  | some _=>exact (show False from r).elim
 | some _=>cases u with
  | none=>exact (show False from r).elim
  | some _=>rfl
theorem KV.val {kvs:List (κ×V)} {vs:List (κ×Value)} (r:KV kvs vs) (k:κ):RelO (valV kvs k) (valueAt vs k):=by
 unfold KV at r
 induction r with
 | nil=>exact True.intro
 | @cons p q ps qs h t ih =>
  obtain ⟨h1,h2⟩:=h
  by_cases e:p.1=k
  ·have e':q.1=k:=h1.symm.trans e
   have b:valueAt (q::qs) k=some q.2:=by simp [valueAt,List.find?_cons,e']
   rw [valV_pos e,b];exact h2
  ·have e':¬ q.1=k:=fun z=>e (h1.trans z)
   have b:valueAt (q::qs) k=valueAt qs k:=by simp [valueAt,List.find?_cons,e']
   rw [valV_neg e,b];exact ih
theorem KV.any {kvs:List (κ×V)} {vs:List (κ×Value)} (r:KV kvs vs) (k:κ):(kvs.any fun kv=>decide (kv.1=k))=vs.any fun kv=>decide (kv.1=k):=by
 unfold KV at r
 induction r with
 | nil=>rfl
 | cons h t ih=>rw [List.any_cons,List.any_cons,ih,h.1]
theorem KV.repl {kvs:List (κ×V)} {vs:List (κ×Value)} (r:KV kvs vs) (k:κ) {y:V} {u:Value} (ry:RelV y u) :
  KV (kvs.map fun kv=>if kv.1=k then (kv.1,y) else kv) (vs.map fun kv=>if kv.1=k then (kv.1,u) else kv):=by
 unfold KV at r ⊢
 induction r with
 | nil=>exact .nil
 | @cons p q ps qs h t ih =>
  rw [List.map_cons,List.map_cons]
  refine .cons ?_ ih
  obtain ⟨h1,h2⟩:=h
  by_cases e:p.1=k
  ·rw [if_pos e,if_pos (h1.symm.trans e)];exact ⟨h1,ry⟩
  ·rw [if_neg e,if_neg (fun z=>e (h1.trans z))];exact ⟨h1,h2⟩
theorem KV.put {kvs:List (κ×V)} {vs:List (κ×Value)} (r:KV kvs vs) (k:κ) {y:V} {u:Value} (ry:RelV y u):KV (putK kvs k y) (stored vs k u):=by
 unfold putK stored
 rw [r.any k]
 by_cases e:(vs.any fun kv=>decide (kv.1=k))=true
 ·rw [if_pos e,if_pos e];exact r.repl k ry
 ·rw [if_neg e,if_neg e];exact Paired.snoc r ⟨rfl,ry⟩
theorem KV.keys {kvs:List (κ×V)} {vs:List (κ×Value)} (r:KV kvs vs):kvs.map (·.1)=vs.map (·.1):=by
 unfold KV at r
 induction r with
 | nil=>rfl
 | cons h t ih=>rw [List.map_cons,List.map_cons,ih,h.1]
theorem KV.length {kvs:List (κ×V)} {vs:List (κ×Value)} (r:KV kvs vs):kvs.length=vs.length:=Paired.length r
end
theorem kV_is {P:Program} {w:World} {k:Key} {u:Value} (r:RelV (kV k) u):(mixKind P w).is k u=true:=by
 cases k with
 | inl i=>obtain ⟨t,e⟩:=(show ∃ t,u=Value.int i t from r);subst e;exact mixKind_int P w i t
 | inr x=>obtain ⟨t,e⟩:=(show ∃ t,u=Value.str x t from r);subst e;exact mixKind_str P w x t
theorem items_are {P:Program} {w:World}:∀ {ks:List Key} {us:List Value},Vals (ks.map kV) us→ItemsAre (mixKind P w) ks us
 | [],_,r=>by rw [List.map_nil] at r;cases r;exact .nil
 | k::ks,_,r=>by
  rw [List.map_cons] at r
  cases r with
  | cons h t=>exact .cons (kV_is h) (items_are t)
abbrev KT (H:Hp):List (List Key×V)→List (List Key×Addr×Value)→Prop:=Paired fun p q=>p.1=q.1∧H q.2.1=some (.tup (p.1.map kV))∧RelV p.2 q.2.2
theorem KT.val {H:Hp} {kvs:List (List Key×V)} {xs:List (List Key×Addr×Value)} (r:KT H kvs xs) (k:List Key):RelO (valV kvs k) ((atKey xs k).map (·.2)):=by
 induction r with
 | nil=>exact True.intro
 | @cons p q ps qs h t ih =>
  obtain ⟨h1,_,h2⟩:=h
  by_cases e:p.1=k
  ·have e':q.1=k:=h1.symm.trans e
   have b:atKey (q::qs) k=some q.2:=by simp [atKey,List.find?_cons,e']
   rw [valV_pos e,b];exact h2
  ·have e':¬ q.1=k:=fun z=>e (h1.trans z)
   have b:atKey (q::qs) k=atKey qs k:=by simp [atKey,List.find?_cons,e']
   rw [valV_neg e,b];exact ih
theorem KT.repl {H:Hp} {kvs:List (List Key×V)} {xs:List (List Key×Addr×Value)} (r:KT H kvs xs) (k:List Key) {y:V} {u:Value} (ry:RelV y u) :
  KT H (kvs.map fun kv=>if kv.1=k then (kv.1,y) else kv) (xs.map (putAt k u)):=by
 induction r with
 | nil=>exact .nil
 | @cons p q ps qs h t ih =>
  rw [List.map_cons,List.map_cons]
  refine .cons ?_ ih
  obtain ⟨h1,h2,h3⟩:=h
  unfold putAt
  by_cases e:p.1=k
  ·rw [if_pos e,if_pos (h1.symm.trans e)];exact ⟨h1,h2,ry⟩
  ·rw [if_neg e,if_neg (fun z=>e (h1.trans z))];exact ⟨h1,h2,h3⟩
theorem KT.put {H:Hp} {kvs:List (List Key×V)} {xs:List (List Key×Addr×Value)} (r:KT H kvs xs) (k:List Key) {b:Addr} {y:V} {u:Value} (hb:H b=some (.tup (k.map kV))) (ry:RelV y u) :
  KT H (putK kvs k y) (storedH xs k b u):=by
 have e:(kvs.any fun kv=>decide (kv.1=k))=(atKey xs k).isSome:=by
  rw [valV_any,(r.val k).isSome_eq,Option.isSome_map]
 unfold putK storedH
 rw [e]
 by_cases q:(atKey xs k).isSome=true
 ·rw [if_pos q,if_pos q];exact r.repl k ry
 ·rw [if_neg q,if_neg q];exact Paired.snoc r ⟨rfl,hb,ry⟩
theorem KT.keeps {H H':Hp} {kvs:List (List Key×V)} {xs:List (List Key×Addr×Value)} (r:KT H kvs xs) (ht:∀ b ys,H b=some (.tup ys)→H' b=some (.tup ys)):KT H' kvs xs :=
 Paired.mapP r fun _ _ z=>⟨z.1,ht _ _ z.2.1,z.2.2⟩
section
variable {P:Program} {w:World} {H:Hp} {h:Heap} {a:Addr}
theorem rd_of {u:HO} (ok:HOk P w H h) (e:Rd H a u):ObjOk P w H h a u:=e.ok ok
theorem dk_rd {kvs:List (Key×V)} (ok:HOk P w H h) (e:Rd H a (.dK kvs)):kvs.length≤sizeLine∧(a == sysModules)=false∧∃ vs,KV kvs vs∧h.DictOf (mixKind P w) a vs :=
 show ObjOk P w H h a (.dK kvs) from rd_of ok e
theorem dk_of {kvs:List (Key×V)} (ok:HOk P w H h) (e:H a=some (.dK kvs)):kvs.length≤sizeLine∧(a == sysModules)=false∧∃ vs,KV kvs vs∧h.DictOf (mixKind P w) a vs:=dk_rd ok (.inl e)
theorem key_of {ks:List Key} (ok:HOk P w H h) (e:H a=some (.tup (ks.map kV))):(tupleKind (mixKind P w)).is h ks a:=by
 obtain ⟨_,its,r,o,h1,h2,n,h3⟩:=(show ObjOk P w H h a (.tup (ks.map kV)) from ok a _ e)
 exact ⟨o,its.toArray,n,h1,h2,h3,by simpa using items_are r⟩
theorem dt_rd {kvs:List (List Key×V)} (ok:HOk P w H h) (e:Rd H a (.dT kvs)):kvs.length≤sizeLine∧(a == sysModules)=false ∧
  ∃ xs,KT H kvs xs∧h.DictOfH (tupleKind (mixKind P w)) a xs:=by
 obtain ⟨z,y,xs,r,o,es,ep,h1,h2,h3,h4,h5⟩:=(show ObjOk P w H h a (.dT kvs) from rd_of ok e)
 refine ⟨z,y,xs,r,o,es,ep,h1,h2,h3,h4,fun x hx=>?_,h5⟩
 have all:∀ {l:List (List Key×V)} {m:List (List Key×Addr×Value)},KT H l m→∀ x∈m,(tupleKind (mixKind P w)).is h x.1 x.2.1:=by
  intro l m q
  induction q with
  | nil=>intro x hx;exact nomatch hx
  | @cons p q ps qs hq t ih =>
   intro x hx
   rcases List.mem_cons.mp hx with e | hx
   ·subst e
    exact key_of ok (by rw [←hq.1];exact hq.2.1)
   ·exact ih x hx
 exact all r x hx
theorem dt_of {kvs:List (List Key×V)} (ok:HOk P w H h) (e:H a=some (.dT kvs)):kvs.length≤sizeLine∧(a == sysModules)=false ∧
  ∃ xs,KT H kvs xs∧h.DictOfH (tupleKind (mixKind P w)) a xs:=dt_rd ok (.inl e)
end
def DGet (H:Hp) (a:Addr) (y:V) (r:Option V):Prop :=
 (∃ kvs k,Rd H a (.dK kvs)∧y=kV k∧r=valV kvs k)∨∃ kvs k b,Rd H a (.dT kvs)∧y=.ref b∧H b=some (.tup (k.map kV))∧r=valV kvs k
def DPut (H:Hp) (a:Addr) (y v:V) (H':Hp):Prop :=
 (∃ kvs k,H a=some (.dK kvs)∧y=kV k∧kvs.length<sizeLine∧H' = upd H a (.dK (putK kvs k v))) ∨
 ∃ kvs k b,H a=some (.dT kvs)∧y=.ref b∧H b=some (.tup (k.map kV))∧kvs.length<sizeLine∧H' = upd H a (.dT (putK kvs k v))
theorem DGet.k {H:Hp} {a:Addr} {kvs:List (Key×V)} {k:Key} (e:H a=some (.dK kvs)):DGet H a (kV k) (valV kvs k):=.inl ⟨kvs,k,.inl e,rfl,rfl⟩
theorem DPut.k {H:Hp} {a:Addr} {kvs:List (Key×V)} {k:Key} {v:V} (e:H a=some (.dK kvs)) (hl:kvs.length<sizeLine):DPut H a (kV k) v (upd H a (.dK (putK kvs k v))):=.inl ⟨kvs,k,e,rfl,hl,rfl⟩
section
variable {X:Cx} {pins:List (Addr×Obj)} {σ:St} {H:Hp} {s:Shared} {a:Addr} {y v:V} {u r:Value} {o:Option V} {A:Around} {E:Value→Shared→Prop}
theorem Inv.big (I:Inv X pins σ H s):sysModules<s.heap.objs.size:=by
 have h:mainGlobals<s.heap.objs.size:=(I.mod.glob.keeps I.bk).lt
 exact Nat.lt_trans (by decide) h
theorem IK {Q:Value→Shared→Prop} (hu:A.units+1<cLine) (I:Inv X pins σ H s) (g:DGet H a y (some v)) (ry:RelV y u) (h:∀ w' s',Inv X pins σ H s'→RelV v w'→Q w' s') :
  wpAny (model X.prog X.w) A (getItem (.ref a) u) Q E s:=by
 rcases g with ⟨kvs,k,e,ey,l⟩ | ⟨kvs,k,b,e,ey,eb,l⟩
 ·subst ey
  obtain ⟨z,hd,vs,rel,dd⟩:=dk_rd I.hok e
  obtain ⟨w',hw,rw'⟩:=RelO.some_of (v:=v) (o:=valueAt vs k) (by rw [l];exact rel.val k)
  exact wpAny_getItem_of (kV_is ry) dd.mapOf hw (h w' _ (I.tok _) rw')
 ·subst ey
  cases (show u=Value.ref b from ry)
  obtain ⟨z,hd,xs,rel,dd⟩:=dt_rd I.hok e
  obtain ⟨w',hw,rw'⟩:=RelO.some_of (v:=v) (o:=(atKey xs k).map (·.2)) (by rw [l];exact rel.val k)
  obtain ⟨p,hp,hp2⟩:=Option.map_eq_some_iff.mp hw
  refine wpAny_getItem_heap (tupleKind_room_in1 hu) (key_of I.hok eb) dd hp ?_
  rw [hp2]
  exact h w' _ (I.tok _) rw'
theorem d_in {Q:Value→Shared→Prop} (hu:A.units+1<cLine) (I:Inv X pins σ H s) (g:DGet H a y o) (ry:RelV y u) (h:∀ s',Inv X pins σ H s'→Q (.bool o.isSome) s') :
  wpAny (model X.prog X.w) A (compareOp .In u (.ref a)) Q E s:=by
 rcases g with ⟨kvs,k,e,ey,l⟩ | ⟨kvs,k,b,e,ey,eb,l⟩
 ·subst ey
  obtain ⟨z,hd,vs,rel,dd⟩:=dk_rd I.hok e
  refine wpAny_in_of (kV_is ry) hd dd.mapOf ?_
  rw [←(rel.val k).isSome_eq,←l]
  exact h _ (I.tok _)
 ·subst ey
  cases (show u=Value.ref b from ry)
  obtain ⟨z,hd,xs,rel,dd⟩:=dt_rd I.hok e
  refine wpAny_in_heap (tupleKind_room_in1 hu) (key_of I.hok eb) hd dd ?_
  have q:=(rel.val k).isSome_eq
  rw [Option.isSome_map] at q
  rw [←q,←l]
  exact h _ (I.tok _)
theorem d_notIn {Q:Value→Shared→Prop} (hu:A.units+1<cLine) (I:Inv X pins σ H s) (g:DGet H a y o) (ry:RelV y u) (h:∀ s',Inv X pins σ H s'→Q (.bool (!o.isSome)) s') :
  wpAny (model X.prog X.w) A (compareOp .NotIn u (.ref a)) Q E s:=by
 rcases g with ⟨kvs,k,e,ey,l⟩ | ⟨kvs,k,b,e,ey,eb,l⟩
 ·subst ey
  obtain ⟨z,hd,vs,rel,dd⟩:=dk_rd I.hok e
  refine wpAny_notIn_of (kV_is ry) hd dd.mapOf ?_
  rw [←(rel.val k).isSome_eq,←l]
  exact h _ (I.tok _)
 ·subst ey
  cases (show u=Value.ref b from ry)
  obtain ⟨z,hd,xs,rel,dd⟩:=dt_rd I.hok e
  refine wpAny_notIn_heap (tupleKind_room_in1 hu) (key_of I.hok eb) hd dd ?_
  have q:=(rel.val k).isSome_eq
  rw [Option.isSome_map] at q
  rw [←q,←l]
  exact h _ (I.tok _)
theorem d_write {h':Heap} {t':Nat} {ob:HO} (I:Inv X pins σ H s) (mu:Mut (H a)) (hs:Heap.SameBut a s.heap h') (he:∃ q,h'.get? a=some q) (new:ObjOk X.prog X.w (upd H a ob) h' a ob) :
  Inv X pins σ (upd H a ob) { s with heap:=h',toks:=t' } :=
 I.write (x:=a) (e:=a) mu (.inl rfl) (fun b q hb z=>(hs.2 b hb).trans z) he new
theorem dk_new {P:Program} {w:World} {H':Hp} {h':Heap} {kvs:List (Key×V)} {vs:List (Key×Value)} (z:kvs.length≤sizeLine) (hd:(a == sysModules)=false) (rel:KV kvs vs) (dd:h'.DictOf (mixKind P w) a vs) :
  ObjOk P w H' h' a (.dK kvs):=⟨z,hd,vs,rel,dd⟩
theorem d_setItem {H':Hp} {Q:Unit→Shared→Prop} (hu:A.units+1<cLine) (I:Inv X pins σ H s) (g:DPut H a y v H') (ry:RelV y u) (rv:RelV v r) (h:∀ s',Inv X pins σ H' s'→Q () s') :
  wpAny (model X.prog X.w) A (setItem (.ref a) u r) Q E s:=by
 rcases g with ⟨kvs,k,e,ey,l,eH⟩ | ⟨kvs,k,b,e,ey,eb,l,eH⟩
 ·subst ey eH
  obtain ⟨z,hd,vs,rel,dd⟩:=dk_of I.hok e
  have hz:vs.length≤sizeLine:=by rw [←rel.length];exact z
  have hl:(putK kvs k v).length≤sizeLine:=by have:=length_putK kvs k v;omega
  refine wpAny_setItem_pairs (hsz:=hz) (kV_is ry) dd fun h' dd' hs=>h _ ?_
  have he:∃ q,h'.get? a=some q:=let ⟨q,_,_,hq,_⟩:=dd';⟨q,hq⟩
  exact d_write I (by rw [e];exact True.intro) hs he (dk_new hl hd (rel.put k rv) dd')
 ·subst ey eH
  cases (show u=Value.ref b from ry)
  obtain ⟨z,hd,xs,rel,dd⟩:=dt_of I.hok e
  have hz:xs.length≤sizeLine:=by rw [←Paired.length rel];exact z
  have hl:(putK kvs k v).length≤sizeLine:=by have:=length_putK kvs k v;omega
  refine wpAny_setItem_heap (hsz:=hz) (tupleKind_room_in1 hu) (key_of I.hok eb) dd fun h' dd' hs=>h _ ?_
  obtain ⟨q,es,ep,hq,h2,h3,h4,_,h5⟩:=dd'
  refine d_write I (by rw [e];exact True.intro) hs ⟨q,hq⟩ ⟨hl,hd,_,(rel.put k eb rv).keeps fun c ys ec=>?_,q,es,ep,hq,h2,h3,h4,h5⟩
  rw [upd_ne (ne_of ec e (fun z=>nomatch z))]
  exact ec
end
section
variable {X:Cx} {pins:List (Addr×Obj)} {σ:St} {H:Hp} {s:Shared} {a:Addr} {kvs:List (Key×V)} {k:Key} {u:Value} {A:Around} {E:Value→Shared→Prop}
theorem d_len {Q:Value→Shared→Prop} (I:Inv X pins σ H s) (e:Rd H a (.dK kvs)) (h:∀ t s',Inv X pins σ H s'→Q (.int kvs.length t) s'):wpAny (model X.prog X.w) A (call (.builtin "len") [.ref a]) Q E s:=by
 obtain ⟨z,hd,vs,rel,dd⟩:=dk_rd I.hok e
 refine call_len_dict hd dd (by rw [←rel.length];rw [sizeLine_eq] at z;omega) ?_
 rw [←rel.length]
 exact h _ _ (I.tok _)
end
def abh (i:Expr):Prop:=∀ ov iv,subscripted i false ov iv=operate [ov,iv] (getItem ov iv)
theorem Y4 {prog:Program} {w:World} {A:Around} {E:Value→Shared→Prop} {s:Shared} {env:Env} {value slice:Expr} {pos:Pos} {T id:String} {Q:Value→Shared→Prop}
  (hl:typeLookup (.type T) "__getitem__" = pure (some (.builtin id))) (hs:abh slice)
  (h:wpAny (model prog w) A (eval value env) (fun o s₁=>wpAny (model prog w) A (eval slice env) (fun i s₂=>s₂.TypeIs o T∧wpAny (model prog w) A (getItem o i) Q E s₂) E s₁) E s) :
  wpAny (model prog w) A (eval (.Subscript value slice pos) env) Q E s:=by
 refine Subscript_ (wpAny_mono h (fun o s₁ h₁=>wpAny_mono h₁ (fun i s₂ h₂=>?_) fun _ _ x=>x) fun _ _ x=>x)
 obtain ⟨hT,h₂⟩:=h₂
 unfold subscriptTail
 refine wpAny_bind ?_
 rw [getitemInPython_of_ne hT.not_modules]
 refine wpAny_bind (wpAny_specialOf hT hl ?_)
 have fin:wpAny (model prog w) A (subscripted slice false o i) (fun r s₃=>wpAny (model prog w) A (letTemporaryGo value o r >>= fun _=>pure r) Q E s₃) E s₂:=by
  rw [hs o i]
  exact wpAny_operating (wpAny_mono h₂ (fun r s₃ h₃=>wpAny_bind (wpAny_letTemporaryGo (wpAny_pure h₃))) fun _ _ x=>x)
 first
  | exact wpAny_pure (wpAny_bind fin)
  | exact wpAny_bind (wpAny_pure (wpAny_bind fin))
  | exact wpAny_bind fin
theorem Lr {X:Cx} {pins:List (Addr×Obj)} {σ:St} {H:Hp} {s:Shared} {a:Addr} {y:V} {o:Option V} (I:Inv X pins σ H s) (g:DGet H a y o):s.TypeIs (.ref a) "dict":=by
 rcases g with ⟨kvs,k,e,_,_⟩ | ⟨kvs,k,b,e,_,_,_⟩
 ·obtain ⟨_,_,vs,_,dd⟩:=dk_rd I.hok e
  exact dd.typeIs
 ·obtain ⟨_,_,xs,_,dd⟩:=dt_rd I.hok e
  exact dd.typeIs
def Q7 (td ty:TE):TE:=fun σ H Q=>td σ H fun x H1=>ty σ H1 fun y H2=>∃ a v,x=.ref a∧DGet H2 a y (some v)∧Q v H2
def tDIn (ty td:TE):TE:=fun σ H Q=>ty σ H fun y H1=>td σ H1 fun x H2=>∃ a o,x=.ref a∧DGet H2 a y o∧Q (.bl o.isSome) H2
def tDNotIn (ty td:TE):TE:=fun σ H Q=>ty σ H fun y H1=>td σ H1 fun x H2=>∃ a o,x=.ref a∧DGet H2 a y o∧Q (.bl (!o.isSome)) H2
def sDPut (td ty tv:TE):TS:=fun D σ H=>tv σ H fun v H1=>td σ H1 fun x H2=>ty σ H2 fun y H3=>∃ a H4,x=.ref a∧DPut H3 a y v H4∧D.nx σ H4
def Q8 (td ty tv:TE) (rd:V→V→Hp→VK→Prop):TS:=fun D σ H=>td σ H fun x H1=>ty σ H1 fun y H2=>∃ a v,x=.ref a∧DGet H2 a y (some v) ∧
 tv σ H2 fun y2 H3=>rd v y2 H3 fun z H4=>∃ H5,DPut H4 a y z H5∧D.nx σ H5
section
variable {X:Cx} {o i e value:Expr} {pos pos' tpos:Pos} {td ty tv:TE}
theorem Y5 (hu:X.A.units+1<cLine) (ho:PE X o td) (hi:PE X i ty) (hs:abh i):PE X (.Subscript o i pos) (Q7 td ty):=by
 intro pins s σ H Q I h
 refine Y4 PySem.F.slot_dict_getitem.lookup hs (thn (ho pins s σ H _ I h) fun u s1 ⟨x,H1,I1,rx,q1⟩=>thn (hi pins s1 σ H1 _ I1 q1) fun iv s2 ⟨y,H2,I2,ry,a,v,ex,g,q2⟩=>?_)
 subst ex
 obtain rfl:u=Value.ref a:=rx
 exact ⟨Lr I2 g,IK hu I2 g ry fun w' s3 I3 rw'=>⟨v,H2,I3,rw',q2⟩⟩
theorem pc_din (hu:X.A.units+1<cLine) (hi:PE X i ty) (ho:PE X o td):PC X .In i o (tDIn ty td):=by
 intro pins s σ H Q I h
 refine thn (hi pins s σ H _ I h) fun iv s1 ⟨y,H1,I1,ry,q1⟩=>thn (ho pins s1 σ H1 _ I1 q1) fun u s2 ⟨x,H2,I2,rx,a,ov,ex,g,q2⟩=>?_
 subst ex
 obtain rfl:u=Value.ref a:=rx
 exact d_in hu I2 g ry fun s3 I3=>⟨.bl ov.isSome,H2,I3,rfl,q2⟩
theorem pc_dnotin (hu:X.A.units+1<cLine) (hi:PE X i ty) (ho:PE X o td):PC X .NotIn i o (tDNotIn ty td):=by
 intro pins s σ H Q I h
 refine thn (hi pins s σ H _ I h) fun iv s1 ⟨y,H1,I1,ry,q1⟩=>thn (ho pins s1 σ H1 _ I1 q1) fun u s2 ⟨x,H2,I2,rx,a,ov,ex,g,q2⟩=>?_
 subst ex
 obtain rfl:u=Value.ref a:=rx
 exact d_notIn hu I2 g ry fun s3 I3=>⟨.bl (!ov.isSome),H2,I3,rfl,q2⟩
theorem ps_dput (hu:X.A.units+1<cLine) (ho:PE X o td) (hi:PE X i ty) (hv:PE X value tv) (hs:swapsWith value (some (.Subscript o i pos')) pos.line X.env=pure false) :
  PS X (.Assign [.Subscript o i pos'] value pos) (sDPut td ty tv):=by
 intro pins s σ H D I h
 refine wpAny_Assign_Subscript (thn (hv pins s σ H _ I h) fun r s1 ⟨v,H1,I1,rv,q1⟩=>thn (ho pins s1 σ H1 _ I1 q1) fun u s2 ⟨x,H2,I2,rx,q2⟩=>thn (hi pins s2 σ H2 _ I2 q2) fun iv s3 ⟨y,H3,I3,ry,a,H4,ex,g,q3⟩=>?_) hs
 subst ex
 obtain rfl:u=Value.ref a:=rx
 exact d_setItem hu I3 g ry rv fun s4 I4=>⟨σ,H4,I4,q3⟩
theorem Y6 {op:Operator} {rd:V→V→Hp→VK→Prop} (hu:X.A.units+1<cLine) (ho:PE X o td) (hi:PE X i ty) (hv:PE X value tv) (hop:adP X op rd)
  (ha:∀ ov iv new,augStore i ov iv new=(do holding [new,ov,iv] (setItem ov iv new);release [new,ov,iv] [];pure .next)):PS X (.AugAssign (.Subscript o i tpos) op value pos) (Q8 td ty tv rd):=by
 intro pins s σ H D I h
 refine wpAny_AugAssign_SubscriptAny (thn (ho pins s σ H _ I h) fun u s1 ⟨x,H1,I1,rx,q1⟩=>thn (hi pins s1 σ H1 _ I1 q1) fun iv s2 ⟨y,H2,I2,ry,a,v,ex,g,q2⟩=>?_) ha
 subst ex
 obtain rfl:u=Value.ref a:=rx
 refine IK hu I2 g ry fun w' s3 I3 rw'=>thn (hv pins s3 σ H2 _ I3 q2) fun w2 s4 ⟨y2,H3,I4,ry2,q3⟩=>thn (hop pins s4 σ H3 v y2 w' w2 _ I4 rw' ry2 q3) fun w3 s5 ⟨z,H4,I5,rz,H5,g5,q4⟩=>?_
 exact d_setItem hu I5 g5 ry rz fun s6 I6=>⟨σ,H5,I6,q4⟩
end
theorem dk_empty {P:Program} {w:World} {H:Hp} (h:Heap) (hb:sysModules<h.objs.size):ObjOk P w H (h.push { cls:=.type "dict",data:=.dict #[] }) h.objs.size (.dK []) :=
 ⟨Nat.zero_le _,beq_eq_false_iff_ne.mpr (Ne.symm (Nat.ne_of_lt hb)),[],.nil,Heap.DictOf.new h⟩
def tDNewK:TE:=fun _ H Q=>∀ p,H p=none→Q (.ref p) (upd H p (.dK []))
section
variable {X:Cx} {pos:Pos}
theorem pe_dnewK:PE X (.Dict [] [] pos) tDNewK:=fun pins s σ H Q I h =>
 wpAny_Dict_empty ⟨.ref s.heap.objs.size,_,I.laid (a:=s.heap.objs.size) (o:=.dK []) (t':=s.toks) (fun _ _ q=>Heap.get?_push_of_some _ q) (Nat.le_refl _) (dk_empty s.heap I.big),rfl,h _ (I.hok.fresh (Nat.le_refl _))⟩
end
section
variable {X:Cx} {pins:List (Addr×Obj)} {σ:St} {H:Hp} {s:Shared} {a:Addr} {y d:V} {u r:Value} {o:Option V} {A:Around} {E:Value→Shared→Prop}
end
section
variable {X:Cx} {o e f:Expr} {apos cpos:Pos} {td ty tx:TE}
end
section
variable {X:Cx} {pins:List (Addr×Obj)} {σ:St} {H:Hp} {s:Shared} {a:Addr} {kvs:List (Key×V)} {A:Around} {E:Value→Shared→Prop}
end
section
variable {X:Cx} {pins:List (Addr×Obj)} {σ:St} {H:Hp} {s:Shared} {a:Addr} {y:V} {u:Value} {A:Around} {E:Value→Shared→Prop}
end
end L2
namespace Att
open PySem PySem.W PySem.Calls PyProof.Rows
theorem ints_of_wellAll {P:Params} {h:Heap}:∀ (ns:List Int) (vs:List Value),WellAll P h vs (ns.map WData.int)→IntsAre vs ns:=by
 intro ns
 induction ns with
 | nil =>
  intro vs w
  rw [List.map_nil] at w
  cases w
  exact .nil
 | cons n ns ih =>
  intro vs w
  rw [List.map_cons] at w
  cases w with
  | cons a b =>
   cases a
   exact .cons _ _ (ih _ b)
theorem script_of {l:OpenLaw} {n:Nat} (hn:l.most=some n) {P:Params} {h:Heap} {args:List WData} {vals:List Value}
  (hpre:l.row.toRowW.claim.pre args=true) (hwl:WellAll P h vals args) :
  ∃ a vs ns,vals=[Value.ref a]∧args=[WData.list (ns.map WData.int)]∧h.get? a=some { cls:=.type "list",data:=.seq vs.toArray }∧IntsAre vs ns∧ns.length≤n:=by
 have hsh:WShape.hasAll [] args [.list .int]=true:=(pre_splitW hpre).1
 have hc:l.pre.holds [] { args:=args }=true:=(pre_splitW hpre).2
 obtain ⟨d,r,rfl,h1,h2⟩:=hasAllW_cons hsh
 obtain rfl:=hasAllW_nil h2
 obtain ⟨xs,rfl,h3⟩:=hasW_list h1
 obtain ⟨ns,rfl⟩:=items_int h3
 have hlen:ns.length≤n:=by
  unfold OpenLaw.pre at hc
  have h4:(WTm.not (.lt (.lit (.int (n:Int))) (.len (.arg 0)))).holds [] { args:=[.list (ns.map .int)] }=true:=by
   have h4:=(holds_andW hc).1
   rw [hn] at h4
   exact h4
  have h5:=condW_of h4 (w_not (w_lt w_lit (w_len_list (w_arg rfl))))
  rw [List.length_map] at h5
  refine Nat.le_of_not_lt fun q=>?_
  have q':(n:Int)<((ns.length:Nat):Int):=by omega
  first
   | (rw [decide_eq_true q'] at h5;exact absurd h5 (by decide))
   | (simp at h5;omega)
 cases hwl with
 | cons w1 w2 =>
  cases w2
  cases w1 with
  | list ho hall=>exact ⟨_,_,ns,rfl,rfl,ho,ints_of_wellAll ns _ hall,hlen⟩
theorem post_true (l:OpenLaw) (args:List WData):l.row.toRowW.claim.post args (.bool true) args=true :=
 postW_of (r:=l.row.toRowW) (X:=(true == true))
  (show WShape.has [] (.bool true) .bool=true by first | rfl | decide | simp [WShape.has,WShape.arms,WShape.armsAll])
  (show (WTm.eq .res (.lit (.bool true))).value [] { args:=args,res:=some (.bool true),after:=args }=some (.bool (true == true)) from w_eq_bool (w_res rfl) w_lit) rfl
theorem attach_call {l:OpenLaw} {n:Nat} {q:Program} {loose:List Str} {XP:(Str→Option Value)→Heap→Prop} {YP:World→Heap→Prop} {d:DefRec}
  (hn:l.most=some n) (hdf:d.params.defaults=[])
  (call:∀ (w:World) (s₀ s₁:Shared) (mg mb:Str→Option Value) (fa:Addr) (o:Obj) (pm cd doc:Value) (a:Addr) (vs:List Value) (ns:List Int),
   Ground q loose [] XP w s₀ mg mb s₁.heap→YP w s₁.heap →
   s₁.heap.get? fa=some o→o.data=.func (docDef d.name d.params d.body d.scope pm cd doc)→s₁.heap.CodeRec cd d.name→mg d.name=some (.ref fa) →
   s₁.heap.get? a=some { cls:=.type "list",data:=.seq vs.toArray }→IntsAre vs ns→ns.length≤n→s₁.gens = #[] →
   codeAny (model l.prog w) callerA (.call (.ref fa) ⟨[.ref a],[]⟩) (fun r s'=>r=.ok (.ret (.bool true))∧OldK s₁.heap s'.heap∧s'.os=s₁.os∧AllBare s'.gens) s₁) :
  WalkO q loose XP YP l.row.toRowW d [] (fun f vs=>PySem.call f vs):=by
 intro w s₀ s₁ mg mb G Y fa o pm cd doc dV kV ho hd hcd hD hmg hg args vals as hpre hlay hrd hwl hlo
 obtain rfl:dV=.none:=Dflts.none hD hdf
 obtain rfl:kV=.none:=Dflts.noKw hD
 obtain ⟨a,vs,ns,rfl,rfl,hobj,hints,hlen⟩:=script_of hn hpre hwl
 refine enter_call (codeAny_mono (call w s₀ s₁ mg mb fa o pm cd doc a vs ns G Y ho (fd_plain hd) hcd hmg hobj hints hlen hg) fun r s' hq=>?_)
 obtain ⟨rfl,h2,h3,h4⟩:=hq
 exact ⟨.inl ⟨.bool true,.bool true,[],rfl,fun _=>rfl,.bool true,post_true l _,fun _=>⟨List.Pairwise.nil,fun _ hm=>(nomatch hm)⟩⟩,h2,h3,h4⟩
section
variable {prog:Program} {w:World} {A:Around} {E:Value→Shared→Prop} {s:Shared} {K:Frag}
def ledger (h:Heap) (L d:Addr):List (Addr×Obj):=(List.range h.objs.size).filterMap fun a=>if a=L∨a=d then none else (h.get? a).map fun o=>(a,o)
end
end Att
namespace L2
open PySem PySem.Spec PyProof.Rows
theorem vals_ints:∀ {vs:List Value} {ns:List Int},IntsAre vs ns→Vals (ns.map V.int) vs
 | _,_,.nil=>.nil
 | _,_,.cons n t h=>.cons ⟨t,rfl⟩ (vals_ints h)
def Only (H:Hp):Prop:=∀ b,H b=none∨∃ o xs,H b=some (.frz o (.lst xs))
theorem law_call {P:Program} {w:World} {K:PySem.W.Frag} {mg mb:Str→Option Value} {CX:CXT} {k:Nat} {fa a:Addr} {fd:FuncData} {x:Str} {sp:Sp} {s₁:Shared} {vs:List Value} {ns:List Int}
  (KX:K.In s₁.heap) (hns:s₁.heap.Ns mainGlobals mg) (hb:s₁.heap.Ns builtinsNs mb) (hbb:∀ x:Str,x ≠ "__name__"→mb x=bootBuiltins x) (hlim:s₁.heap.NoLimit) (hg:s₁.gens = #[])
  (ha:s₁.heap.get? a=some { cls:=.type "list",data:=.seq vs.toArray }) (hi:IntsAre vs ns) (hl:ns.length≤sizeLine) (hr:Room k callerA)
  (F:∀ base:Heap,K.In base→base.Ns mainGlobals mg→FnOk P w K mg base CX k fa fd [x] sp) (hbind:∀ (s:Shared) (u:Value),BindsTo s fd ⟨[u],[]⟩ [(x,u)])
  (hsp:∀ H:Hp,Only H→SqL K H a (ns.map V.int)→sp [.ref a] H (fun v _=>v=.bl true) fun _ _ _=>False)
  (hCX:∀ H e s',CX [] H s₁ (fun _ _ _=>False) e s'→False) :
  codeAny (model P w) callerA (.call (.ref fa) ⟨[.ref a],[]⟩) (fun r s'=>r=.ok (.ret (.bool true))∧OldK s₁.heap s'.heap∧s'.os=s₁.os∧AllBare s'.gens) s₁:=by
 have rv:=vals_ints hi
 have lenV:=hi.length
 -- from an abstract heap in which nothing but the script may be tracked
 have core:∀ H:Hp,Only H→SqL K H a (ns.map V.int)→HOk P w H s₁.heap→(∀ b,H b≠none→b=a)→(H a≠none→K.lookup a=none) →
   codeAny (model P w) callerA (.call (.ref fa) ⟨[.ref a],[]⟩) (fun r s'=>r=.ok (.ret (.bool true))∧OldK s₁.heap s'.heap∧s'.os=s₁.os∧AllBare s'.gens) s₁:=by
  intro H hO hS hok hA hK
  have base_of:∀ {b:Addr} {o:Obj},s₁.heap.get? b=some o→H b=none→(hidT s₁.heap H).get? b=some o:=fun e n=>hidT_get e n
  have noA:∀ {b:Addr} {o:Obj} {es:Array DictEntry} {ep:Nat},s₁.heap.get? b=some o→o.data=.dict es ep→H b=none:=fun {b o es ep} e d=>by
   cases q:H b with
   | none=>rfl
   | some u =>
    have e':b=a:=hA b (by rw [q];simp)
    subst e'
    rw [ha] at e;cases e
    have d':Data.seq vs.toArray _=Data.dict es ep:=d
    cases d'
  have nsK:∀ {b:Addr} {m:Str→Option Value},s₁.heap.Ns b m→(hidT s₁.heap H).Ns b m:=fun {b m} ⟨o,es,ep,e,d,r⟩=>⟨o,es,ep,base_of e (noA e d),d,r⟩
  have hKb:K.In (hidT s₁.heap H):=fun b o e=>base_of (KX b o e) (by
   cases q:H b with
   | none=>rfl
   | some u =>
    have e':b=a:=hA b (by rw [q];simp)
    subst e'
    rw [hK (by rw [q];simp)] at e;cases e)
  have hM:Mod K mg (hidT s₁.heap H):=⟨hKb,nsK hns,⟨mb,nsK hb,hbb⟩,let ⟨mc,h1,h2⟩:=hlim;⟨mc,nsK h1,h2⟩⟩
  have e0:Env0 P w K mg (hidT s₁.heap H) callerA [] s₁ H:=⟨rfl,hM,fun b o e=>of_hidT e,Nat.le_of_eq (hidT_size _ _),trivial,fun b hb=>absurd (show b∈([]:List Addr) from hb) (by simp),hok,.of_eq hg⟩
  refine codeAny_mono ((F _ hKb (nsK hns)).run callerA [] s₁ H ⟨[.ref a],[]⟩ [.ref a] [.ref a] _ _ hr e0 (hbind s₁ (.ref a)) (.cons rfl .nil) (hsp H hO hS)) fun r s' h=>?_
  cases r with
  | error e=>exact (hCX H e s' h).elim
  | ok fl =>
   cases fl with
   | next=>exact False.elim h
   | brk=>exact False.elim h
   | cont=>exact False.elim h
   | ret u =>
    obtain ⟨v,H',os,bare,un,hok',r',q⟩:=h
    have q':v=.bl true:=q
    subst q'
    obtain rfl:u=Value.bool true:=r'
    refine ⟨rfl,OldK.of_keep fun b o e=>?_,os,bare⟩
    cases q:H b with
    | none=>exact un.keep b o e q (by intro z;exact absurd (show b∈([]:List Addr) from z) (by simp)) (by simp)
    | some u =>
     rcases hO b with z | ⟨ob,xs,z⟩
     ·rw [q] at z;cases z
     ·have z2:=un.frzs b ob _ z
      obtain ⟨e1,_⟩:=hok b _ z
      obtain ⟨e2,_⟩:=hok' b _ z2
      rw [e] at e1;cases e1
      exact e2
 cases hk:K.lookup a with
 | some o =>
  -- the script is one of the module's own objects
  have e:=KX a o hk
  rw [ha] at e
  cases e
  refine core (fun _=>none) (fun _=>.inl rfl) (.inr ⟨_,vs.toArray,_,hk,rfl,rfl,rfl,by rw [List.size_toArray,lenV];exact hl,by simpa using rv⟩) (fun b u z=>by have z':(none:Option HO)=some u:=z;cases z') (fun b z=>absurd rfl z) fun z=>absurd rfl z
 | none =>
  refine core (fun b=>if b=a then some (.frz { cls:=.type "list",data:=.seq vs.toArray } (.lst (ns.map V.int))) else none) (fun b=>?_) (.inl (.inr ⟨{ cls:=.type "list",data:=.seq vs.toArray },if_pos rfl⟩)) (fun b u z=>?_) (fun b z=>?_) fun _=>hk
  ·by_cases hb:b=a
   ·exact .inr ⟨_,_,if_pos hb⟩
   ·exact .inl (if_neg hb)
  ·by_cases hb:b=a
   ·have z':=(if_pos hb).symm.trans z
    cases z'
    subst hb
    exact ⟨ha,by rw [List.length_map];exact hl,vs,_,rv,ha⟩
   ·have z':=(if_neg hb).symm.trans z
    cases z'
  ·by_cases hb:b=a
   ·exact hb
   ·exact absurd (if_neg hb) z
end L2
namespace L2
open PySem PySem.Spec PyProof.Rows
theorem walk_of {l:PySem.W.OpenLaw} {n k:Nat} {q:Program} {loose:List Str} {XP:(Str→Option Value)→Heap→Prop} {YP:World→Heap→Prop} {d:DefRec} {K:Params→PySem.W.Frag} {CX:World→CXT} {sp:World→Sp} {x:Str}
  (hn:l.most=some n) (hn2:n≤sizeLine) (hdf:d.params.defaults=[]) (hr:Room k callerA)
  (hY:∀ (w:World) (h:Heap),YP w h→(K w.params).In h)
  (F:∀ (w:World) (mg:Str→Option Value) (fa:Addr) (h:Heap),(K w.params).In h→h.Ns mainGlobals mg→mg d.name=some (.ref fa) →
   ∃ fd:FuncData,(∀ (s:Shared) (u:Value),BindsTo s fd ⟨[u],[]⟩ [(x,u)]) ∧
    ∀ base:Heap,(K w.params).In base→base.Ns mainGlobals mg→FnOk l.prog w (K w.params) mg base (CX w) k fa fd [x] (sp w))
  (hsp:∀ (w:World) (H:Hp) (a:Addr) (ns:List Int),ns.length≤n→Only H→SqL (K w.params) H a (ns.map V.int)→sp w [.ref a] H (fun v _=>v=.bl true) fun _ _ _=>False)
  (hCX:∀ (w:World) (H:Hp) (s:Shared) (e:Value) (s':Shared),CX w [] H s (fun _ _ _=>False) e s'→False) :
  PySem.W.WalkO q loose XP YP l.row.toRowW d [] (fun f vs=>PySem.call f vs):=by
 refine Att.attach_call hn hdf fun w s₀ s₁ mg mb fa o pm cd doc a vs ns G Y ho hd hcd hmg hobj hints hlen hg=>?_
 have KX:=hY w _ Y
 obtain ⟨fd,hb,hF⟩:=F w mg fa _ KX G.T.g hmg
 exact law_call KX G.T.g G.T.b G.T.builtins G.T.nolimit hg hobj hints (Nat.le_trans hlen hn2) hr hF hb (fun H hO hS=>hsp w H a ns hlen hO hS) fun H e s'=>hCX w H s₁ e s'
theorem VD {l:PySem.W.OpenLaw} {n k:Nat} {q:Program} {loose:List Str} {XP:(Str→Option Value)→Heap→Prop} {YP:World→Heap→Prop} {d:DefRec} {K:Params→PySem.W.Frag} {CX:CXT} {sp:PySem.W.Frag→Sp} {x:Str}
  (hn:l.most=some n) (hn2:n≤sizeLine) (hdf:d.params.defaults=[]) (hr:Room k callerA)
  (hY:∀ (w:World) (h:Heap),YP w h→(K w.params).In h)
  (F:∀ (w:World) (mg:Str→Option Value) (fa:Addr) (h:Heap),(K w.params).In h→h.Ns mainGlobals mg→mg d.name=some (.ref fa) →
   ∃ fd:FuncData,(∀ (s:Shared) (u:Value),BindsTo s fd ⟨[u],[]⟩ [(x,u)]) ∧
    ∀ base:Heap,(K w.params).In base→base.Ns mainGlobals mg→FnOk l.prog w (K w.params) mg base CX k fa fd [x] (sp (K w.params)))
  (hsp:∀ (K:PySem.W.Frag) (H:Hp) (a:Addr) (ns:List Int),ns.length≤n→Only H→SqL K H a (ns.map V.int)→sp K [.ref a] H (fun v _=>v=.bl true) fun _ _ _=>False)
  (hCX:∀ (H:Hp) (s:Shared) (e:Value) (s':Shared),CX [] H s (fun _ _ _=>False) e s'→False) :
  PySem.W.WalkO q loose XP YP l.row.toRowW d [] (fun f vs=>PySem.call f vs) :=
 walk_of (K:=K) (CX:=fun _=>CX) (sp:=fun w=>sp (K w.params)) hn hn2 hdf hr hY F (fun w H a ns h1 h2 h3=>hsp (K w.params) H a ns h1 h2 h3) fun _ H s e s'=>hCX H s e s'
end L2
namespace L2
open PySem PySem.Spec PyProof.Rows
def inClass (s:Stmt) (j:Nat):Stmt:=match s with
 | .ClassDef _ _ _ body _ _ _ _ _ _ _=>body.getD j (.Pass ⟨0,0,0,0⟩)
 | _=>.Pass ⟨0,0,0,0⟩
def defArgs (s:Stmt):Arguments:=match s with
 | .FunctionDef _ a _ _ _ _ _ _ _ _=>a
 | _=>{ posonlyargs:=[],args:=[],vararg:=none,kwonlyargs:=[],kw_defaults:=[],kwarg:=none,defaults:=[] }
def defBody (s:Stmt):List Stmt:=match s with
 | .FunctionDef _ _ b _ _ _ _ _ _ _=>b
 | _=>[]
def defScope (s:Stmt):Scope:=match s with
 | .FunctionDef _ _ _ _ _ _ sc _ _ _=>sc
 | _=>{ kind:=.function,names:=[],isGenerator:=false,isCoroutine:=false }
abbrev CX0:CXT:=fun _ _ _ _ _ _=>False
abbrev E0:XK:=fun _ _ _=>False
theorem pass0 {X:Cx}:Passes CX0 X E0:=fun _ _ _ _ _ _ _ h=>h.elim
structure Fun (K:PySem.W.Frag) (x qual:Str) (st:Stmt) (f:Addr) (fd:FuncData):Prop where
 ex:∃ (oc:Value) (od:Option Addr) (kV doc pm:Value) (an:Option Addr) (cdv ct:Value) (osl:Array (Option Value)),
  fd=PySem.W.fnOf x qual (defArgs st) (defBody st) (defScope st) .none kV doc pm an cdv ct∧K.lookup f=some ⟨oc,od,.func fd,osl⟩∧PySem.W.codeIn K cdv qual=true
 kp:PySem.W.keepIn K (.ref f)=true
section
variable {P:Program} {w:World} {K:PySem.W.Frag} {mg:Str→Option Value} {base:Heap}
theorem Fun.ok {x qual:Str} {st:Stmt} {f:Addr} {fd:FuncData} {N ps:List Str} {k:Nat} {sp:Sp} (F:Fun K x qual st f fd) (S:FnScope N ps (defScope st)) (len:∀ vs H Q E,sp vs H Q E→vs.length=ps.length)
  (hbody:∀ (cdv:Value) (A:Around) (outer:List Env) (s:Shared) (H:Hp) (vs:List V) (Q:VK) (E:XK),Room k (A.deeper (envOfC qual (defScope st) s.heap.objs.size f cdv))→sp vs H Q E →
   ∃ t,PSs (cxOf CX0 P w K mg base N qual (defScope st) f cdv A outer s H E).nox (defBody st) t∧t { nx:=fun _ H'=>Q .non H',rt:=Q } (start N vs) H):FnOk P w K mg base CX0 (k+1) f fd ps sp:=by
 obtain ⟨oc,od,kV,doc,pm,an,cdv,ct,osl,rfl,lk,hcd⟩:=F.ex
 refine fn_of lk hcd S len fun A outer s H vs Q E hr hsp=>?_
 obtain ⟨t,h,q⟩:=hbody cdv A outer s H vs Q E hr hsp
 exact ⟨t,h.nox,q⟩
theorem Fun.binds {x qual:Str} {st:Stmt} {f:Addr} {fd:FuncData} {ps:List Str} (F:Fun K x qual st f fd)
  (h:∀ (kV doc pm:Value) (an:Option Addr) (cdv ct:Value) (us:List Value),us.length=ps.length→bindArgs (PySem.W.fnOf x qual (defArgs st) (defBody st) (defScope st) .none kV doc pm an cdv ct) ⟨us,[]⟩=pure (ps.zip us)):Binds K fd ps []:=by
 obtain ⟨oc,od,kV,doc,pm,an,cdv,ct,osl,rfl,lk,hcd⟩:=F.ex
 exact .all (h kV doc pm an cdv ct)
theorem fun_mk {x qual:Str} {st:Stmt} {f:Addr} {oc:Value} {od an:Option Addr} {osl:Array (Option Value)} {kV doc pm cdv ct:Value} (l:K.lookup f=some ⟨oc,od,.func (PySem.W.fnOf x qual (defArgs st) (defBody st) (defScope st) .none kV doc pm an cdv ct),osl⟩)
  (c:PySem.W.codeIn K cdv qual=true) (k:PySem.W.keepIn K (.ref f)=true):Fun K x qual st f (PySem.W.fnOf x qual (defArgs st) (defBody st) (defScope st) .none kV doc pm an cdv ct):=⟨⟨oc,od,kV,doc,pm,an,cdv,ct,osl,rfl,l,c⟩,k⟩
end
theorem hu_of {A:Around} {k:Nat} (hr:Room k A):A.units+1<cLine:=Nat.lt_of_le_of_lt (Nat.add_le_add_left (by decide:1≤64) _) hr.units
section
variable {X:Cx}
theorem call_lenD:CallR X (.builtin "len") (fun xs H Q=>∃ a kvs,xs=[V.ref a]∧H a=some (.dK kvs)∧Q (.int kvs.length) H):=by
 intro pins s σ H xs us Q I r h
 obtain ⟨a,kvs,rfl,ha,q⟩:=h
 obtain ⟨u,rfl,ru⟩:=vals1 r
 cases ru
 exact d_len I (.inl ha) fun t s' I'=>⟨.int kvs.length,H,I',⟨t,rfl⟩,q⟩
end
theorem ite2 {c A B:Prop} [Decidable c] (h1:c→A) (h2:¬ c→B):if c then A else B:=by
 by_cases h:c
 ·rw [if_pos h]
  exact h1 h
 ·rw [if_neg h]
  exact h2 h
def Same (H H':Hp):Prop:=∀ b o,H b=some o→H' b=some o
theorem Same.refl (H:Hp):Same H H:=fun _ _ h=>h
theorem Same.trans {H H1 H2:Hp} (a:Same H H1) (b:Same H1 H2):Same H H2:=fun c o h=>b c o (a c o h)
theorem Same.free {H H':Hp} (e:Same H H') {l:Addr} (h:H' l=Option.none):H l=Option.none:=by
 cases q:H l with
 | none=>rfl
 | some o =>
  rw [e l o q] at h
  cases h
theorem Same.seq {K:PySem.W.Frag} {H H':Hp} {a:Addr} {xs:List V} (e:Same H H') (h:SqL K H a xs):SqL K H' a xs:=by
 rcases h with (h | ⟨o,h⟩) | h
 ·exact .inl (.inl (e _ _ h))
 ·exact .inl (.inr ⟨o,e _ _ h⟩)
 ·exact .inr h
section
variable {κ:Type} [DecidableEq κ]
theorem nd_snoc:∀ {l:List κ} {k:κ},l.Nodup→¬ k∈l→(l++[k]).Nodup
 | [],k,_,_=>by simp
 | a::r,k,h,hk=>by
  obtain ⟨h1,h2⟩:=List.nodup_cons.mp h
  show (a::(r++[k])).Nodup
  refine List.nodup_cons.mpr ⟨fun m=>?_,nd_snoc h2 fun m=>hk (List.mem_cons.mpr (Or.inr m))⟩
  rcases List.mem_append.mp m with q | q
  ·exact h1 q
  ·exact hk (List.mem_cons.mpr (Or.inl (List.mem_singleton.mp q).symm))
end
end L2
namespace L2
open PySem PySem.Spec PyProof.Rows
theorem aD:bootBuiltins "isinstance" = some (.builtin "isinstance"):=by rfl
theorem abj:bootBuiltins "sum" = some (.builtin "sum"):=by rfl
theorem JZ:bootBuiltins "min" = some (.builtin "min"):=by rfl
theorem IV:bootBuiltins "sorted" = some (.builtin "sorted"):=by rfl
theorem VF:bootBuiltins "int" = some (.type "int"):=by rfl
theorem Y7:bootBuiltins "bool" = some (.type "bool"):=by rfl
theorem kj:bootBuiltins "str" = some (.type "str"):=by rfl
theorem bH:bootBuiltins "list" = some (.type "list"):=by rfl
theorem bZ:bootBuiltins "tuple" = some (.type "tuple"):=by rfl
theorem abk:bootBuiltins "set" = some (.type "set"):=by rfl
def Fe (H:Hp):V→Option String
 | .non=>some "NoneType"
 | .bl _=>some "bool"
 | .int _=>some "int"
 | .str _=>some "str"
 | .ref a=>match H a with
  | some (.lst _)=>some "list"
  | some (.frz _ (.lst _))=>some "list"
  | some (.tup _)=>some "tuple"
  | some (.dK _)=>some "dict"
  | _=>none
 | _=>none
theorem VG {K:PySem.W.Frag} {H:Hp} {x:V} {t:String} (h:Fe H x=some t):TyOf K H x (.type t):=by
 unfold Fe at h
 split at h
 ·cases h;exact .non
 ·cases h;exact .bl _
 ·cases h;exact .int _
 ·cases h;exact .str _
 ·split at h
  ·cases h;exact .lst (by assumption)
  ·cases h;exact .frz (by assumption)
  ·cases h;exact .tup (by assumption)
  ·cases h;exact .dK (by assumption)
  ·cases h
 ·cases h
def gn (t c:String):Option Bool :=
 match c with
 | "int"=>if t = "int" then some true else if t = "bool" then some true else if t = "str" then some false else if t = "list" then some false else if t = "tuple" then some false else if t = "NoneType" then some false else none
 | "bool"=>if t = "int" then some false else if t = "bool" then some true else if t = "str" then some false else if t = "list" then some false else if t = "tuple" then some false else if t = "NoneType" then some false else none
 | "str"=>if t = "int" then some false else if t = "bool" then some false else if t = "str" then some true else if t = "list" then some false else if t = "tuple" then some false else if t = "NoneType" then some false else none
 | "list"=>if t = "int" then some false else if t = "bool" then some false else if t = "str" then some false else if t = "list" then some true else if t = "tuple" then some false else if t = "NoneType" then some false else none
 | "tuple"=>if t = "int" then some false else if t = "bool" then some false else if t = "str" then some false else if t = "list" then some false else if t = "tuple" then some true else if t = "NoneType" then some false else none
 | _=>none
theorem Fg {K:PySem.W.Frag} {t c:String} {b:Bool} (h:gn t c=some b):PySem.W.kitOne K (.type t) (.type c)=some b:=by
  unfold gn at h
  split at h
  all_goals first
    | (cases h;done)
    | (repeat' split at h
       all_goals first
        | (cases h;subst_vars;rfl)
        | (cases h))
section
variable {X:Cx}
theorem VH:CallR X (.builtin "isinstance") (fun xs H Q=>∃ x t c b,xs=[x,.ty c]∧Fe H x=some t∧gn t c=some b∧Q (.bl b) H):=by
 intro pins s σ H xs us Q I r h
 obtain ⟨x,t,c,b,rfl,h1,h2,q⟩:=h
 obtain ⟨u,u2,rfl,r1,r2⟩:=vals2 r
 obtain rfl:u2=Value.type c:=r2
 exact Ub I r1 (VG h1) (Fg h2) fun tk=>⟨.bl b,H,I.tok _,rfl,q⟩
theorem acA {x:Str} {n:String} {pos:Pos} (hm:X.mg x=none) (hv:bootBuiltins x=some (.type n)) (hg:Gl X x:=by rfl) (hn:x ≠ "__name__":=by decide) (hd:(x == ("__debug__":Str))=false:=by decide):PE X (.Name x pos) (tC (.ty n)) :=
 YK hg hm hv rfl hn hd
def GI (mg:Str→Option Value) (x:Str) (i:Int):Prop:=∃ t,mg x=some (.int i t)
theorem acB {x:Str} {i:Int} {pos:Pos} (h:GI X.mg x i) (hg:Gl X x:=by rfl) (hd:(x == ("__debug__":Str))=false:=by decide):PE X (.Name x pos) (tC (.int i)):=by
 obtain ⟨t,e⟩:=h
 exact YJ hg e ⟨t,rfl⟩ hd
def Good (P:Program) (w:World) (K:PySem.W.Frag) (mg:Str→Option Value) (base:Heap) (CX:CXT) (k:Nat) (x:Str) (ps:List Str) (sp:Sp):Prop :=
 ∃ f fd,FnOk P w K mg base CX k f fd ps sp∧mg x=some (.ref f)∧PySem.W.keepIn K (.ref f)=true∧Binds K fd ps []
theorem VJ {CX:CXT} {k:Nat} {x:Str} {ps:List Str} {sp:Sp} {E:XK} {e:Expr} {es:List Expr} {t:TA} {p pos:Pos} (g:Good X.prog X.w X.K X.mg X.base CX k x ps sp) (hr:Room k X.A) (hx:Passes CX X E)
  (ha:PA X (e::es) t) (hg:Gl X x:=by rfl) (hdb:(x == ("__debug__":Str))=false:=by decide) (he:starEach (e::es) X.env=(false,eval e X.env)::starEach es X.env:=by rfl) (hpl:(backTo pos (starEach es X.env)).any (·.1)=false:=by rfl) :
  PE X (.Call (.Name x p) (e::es) [] pos) (tCall sp [] E t):=by
 obtain ⟨f,fd,F,hm,hk,hb⟩:=g
 exact pe_call F hr hg hm hk hb .nil hx ha hdb he hpl
def aN (K:PySem.W.Frag) (mg:Str→Option Value) (x:Str) (st:Stmt) (ps:List Str):Prop:=∃ f fd,Fun K x x st f fd∧mg x=some (.ref f)∧Binds K fd ps []
theorem aN.good {P:Program} {w:World} {K:PySem.W.Frag} {mg:Str→Option Value} {base:Heap} {x:Str} {st:Stmt} {N ps:List Str} {k:Nat} {sp:Sp} (F:aN K mg x st ps) (S:FnScope N ps (defScope st)) (len:∀ vs H Q E,sp vs H Q E→vs.length=ps.length)
  (hbody:∀ (f:Addr) (cdv:Value) (A:Around) (outer:List Env) (s:Shared) (H:Hp) (vs:List V) (Q:VK) (E:XK),Room k (A.deeper (envOfC x (defScope st) s.heap.objs.size f cdv))→sp vs H Q E →
   ∃ t,PSs (cxOf CX0 P w K mg base N x (defScope st) f cdv A outer s H E).nox (defBody st) t∧t { nx:=fun _ H'=>Q .non H',rt:=Q } (start N vs) H):Good P w K mg base CX0 (k+1) x ps sp:=by
 obtain ⟨f,fd,F,hm,hb⟩:=F
 exact ⟨f,fd,F.ok S len (hbody f),hm,F.kp,hb⟩
def aad (i j:Int):Prop:=0<j∧j.natAbs.log2<9000
theorem m8:OpR X (binaryOp .FloorDiv) (rI aad fun i j=>.int (i / j)):=opI fun i j _ _ _ _ _ hc q=>by
 have h:i.fdiv j=i / j:=Int.fdiv_eq_ediv_of_nonneg _ (Int.le_of_lt hc.1)
 exact floordiv_int (Int.ne_of_gt hc.1) (by rw [h];exact q) (.inl (PyProof.noPylong_of_log2 hc.2))
end
def bQ (K:PySem.W.Frag) (H:Hp) (a:Addr) (xs:List V):Prop:=SqL K H a xs∨SqT K H a xs
end L2
namespace L2
open PySem PySem.Spec PyProof.Rows
section
variable {X:Cx}
def abl (K:PySem.W.Frag):R2:=fun x y H Q=>∃ p xs i v,x=.ref p∧y=.int i∧bQ K H p xs∧atI xs i=some v∧Q v H
theorem Q9 (K:PySem.W.Frag) (p:Addr) (i:Int) (H:Hp) (Q:VK):abl K (.ref p) (.int i) H Q=∃ xs,bQ K H p xs∧∃ v,atI xs i=some v∧Q v H:=by
 refine propext ⟨fun h=>?_,fun h=>?_⟩
 ·obtain ⟨_,xs,_,v,e1,e2,h1,h2,q⟩:=h
  cases e1;cases e2
  exact ⟨xs,h1,v,h2,q⟩
 ·obtain ⟨xs,h1,v,h2,q⟩:=h
  exact ⟨p,xs,i,v,rfl,rfl,h1,h2,q⟩
theorem cD:IxR X (abl X.K):=by
 intro value slice pins s σ H x y v u Q I rx ry q hs
 obtain ⟨p,xs,i,z,e1,e2,h | h,e3,q⟩:=q
 ·exact ix_list value slice pins s σ H x y v u Q I rx ry ⟨p,xs,i,z,e1,e2,h,e3,q⟩ hs
 ·exact aa8 value slice pins s σ H x y v u Q I rx ry ⟨p,xs,i,z,e1,e2,h,e3,q⟩ hs
def Ra (K:PySem.W.Frag):List V→Hp→VK→Prop:=fun xs H Q=>∃ p ys,xs=[.ref p]∧bQ K H p ys∧Q (.int ys.length) H
theorem Ls (K:PySem.W.Frag) (p:Addr) (H:Hp) (Q:VK):Ra K [.ref p] H Q=∃ ys,bQ K H p ys∧Q (.int ys.length) H:=by
 refine propext ⟨fun h=>?_,fun h=>?_⟩
 ·obtain ⟨_,ys,e,h1,q⟩:=h
  cases e
  exact ⟨ys,h1,q⟩
 ·obtain ⟨ys,h1,q⟩:=h
  exact ⟨p,ys,rfl,h1,q⟩
theorem aM:CallR X (.builtin "len") (Ra X.K):=call_len_seq
def VL (K:PySem.W.Frag):List V→Hp→VK→Prop:=fun xs H Q=>∃ p ys,xs=[.ref p]∧bQ K H p ys∧∀ l,H l=none→Q (.ref l) (upd H l (.lst ys))
theorem IW (K:PySem.W.Frag) (p:Addr) (H:Hp) (Q:VK):VL K [.ref p] H Q=∃ ys,bQ K H p ys∧∀ l,H l=none→Q (.ref l) (upd H l (.lst ys)):=by
 refine propext ⟨fun h=>?_,fun h=>?_⟩
 ·obtain ⟨_,ys,e,h1,q⟩:=h
  cases e
  exact ⟨ys,h1,q⟩
 ·obtain ⟨ys,h1,q⟩:=h
  exact ⟨p,ys,rfl,h1,q⟩
theorem fL:CallR X (.type "list") (VL X.K):=JX
def aae (K:PySem.W.Frag):List V→Hp→VK→Prop:=fun xs H Q=>∃ p ys,xs=[.ref p]∧((SqL K H p ys∧∀ l,H l=none→Q (.ref l) (upd H l (.tup ys)))∨(SqT K H p ys∧Q (.ref p) H))
theorem Lw (K:PySem.W.Frag) (p:Addr) (H:Hp) (Q:VK):aae K [.ref p] H Q=∃ ys,((SqL K H p ys∧∀ l,H l=none→Q (.ref l) (upd H l (.tup ys)))∨(SqT K H p ys∧Q (.ref p) H)):=by
 refine propext ⟨fun h=>?_,fun h=>?_⟩
 ·obtain ⟨_,ys,e,h1⟩:=h
  cases e
  exact ⟨ys,h1⟩
 ·obtain ⟨ys,h1⟩:=h
  exact ⟨p,ys,rfl,h1⟩
theorem pR:CallR X (.type "tuple") (aae X.K):=Hv
def Lx (H:Hp) (x:V) (c:String):Option Bool:=(Fe H x).bind fun t=>gn t c
def J0:List V→Hp→VK→Prop:=fun xs H Q=>∃ x t c b,xs=[x,.ty c]∧Fe H x=some t∧gn t c=some b∧Q (.bl b) H
theorem aP:CallR X (.builtin "isinstance") J0:=VH
theorem yN (x:V) (c:String) (H:Hp) (Q:VK):J0 [x,.ty c] H Q=∃ b,Lx H x c=some b∧Q (.bl b) H:=by
 refine propext ⟨fun h=>?_,fun h=>?_⟩
 ·obtain ⟨x',t,c',b,e,h1,h2,q⟩:=h
  cases e
  exact ⟨b,by unfold Lx;rw [h1];exact h2,q⟩
 ·obtain ⟨b,h1,q⟩:=h
  unfold Lx at h1
  cases e:Fe H x with
  | none=>rw [e] at h1;cases h1
  | some t=>rw [e] at h1;exact ⟨x,t,c,b,rfl,e,h1,q⟩
theorem Aq {x:V} {c:String} {b:Bool} {H:Hp} {Q:VK} (h:Lx H x c=some b):(∃ b',Lx H x c=some b'∧Q (.bl b') H)=Q (.bl b) H:=by
 refine propext ⟨fun ⟨_,e,q⟩=>?_,fun q=>⟨b,h,q⟩⟩
 rw [h] at e;cases e;exact q
theorem Ly (H:Hp) (i:Int):Lx H (.int i) "int" = some true:=by rfl
theorem J1 (H:Hp) (i:Int):Lx H (.int i) "bool" = some false:=by rfl
theorem Lz (H:Hp) (x:Str):Lx H (.str x) "str" = some true:=by rfl
theorem Rb (i:Int) (H:Hp) (Q:VK):J0 [.int i,.ty "int"] H Q=Q (.bl true) H:=by rw [yN,Aq (Ly H i)]
theorem Rc (i:Int) (H:Hp) (Q:VK):J0 [.int i,.ty "bool"] H Q=Q (.bl false) H:=by rw [yN,Aq (J1 H i)]
theorem Rf (x:Str) (H:Hp) (Q:VK):J0 [.str x,.ty "str"] H Q=Q (.bl true) H:=by rw [yN,Aq (Lz H x)]
theorem LC (a:Addr) (c:String) (H:Hp) (Q:VK):J0 [.ref a,.ty c] H Q=∃ b,Lx H (.ref a) c=some b∧Q (.bl b) H:=yN _ _ _ _
theorem rT {H:Hp} {a:Addr} {xs:List V} (h:H a=some (.lst xs)):Lx H (.ref a) "list" = some true:=by
 have e:Fe H (.ref a)=some "list":=by show (match H a with | some (.lst _)=>some "list" | some (.frz _ (.lst _))=>some "list" | some (.tup _)=>some "tuple" | some (.dK _)=>some "dict" | _=>none)=some "list";rw [h]
 unfold Lx;rw [e];rfl
theorem Rg {H:Hp} {a:Addr} {xs:List V} (h:H a=some (.tup xs)):Lx H (.ref a) "tuple" = some true:=by
 have e:Fe H (.ref a)=some "tuple":=by show (match H a with | some (.lst _)=>some "list" | some (.frz _ (.lst _))=>some "list" | some (.tup _)=>some "tuple" | some (.dK _)=>some "dict" | _=>none)=some "tuple";rw [h]
 unfold Lx;rw [e];rfl
theorem LK (K:PySem.W.Frag) (p:Addr) (H:Hp):Y0 K "list" (.ref p) H=∃ xs,SqL K H p xs:=by
 unfold Y0
 refine propext ⟨fun h=>?_,fun h=>.inl ⟨rfl,h⟩⟩
 rcases h with ⟨_,h⟩ | ⟨e,_⟩ | ⟨e,_⟩ | ⟨e,_⟩
 ·exact h
 ·exact absurd e (by decide)
 ·exact absurd e (by decide)
 ·exact absurd e (by decide)
theorem Rh (K:PySem.W.Frag) (x:Str) (H:Hp):Y0 K "str" (.str x) H=True:=propext ⟨fun _=>trivial,fun _=>rfl⟩
theorem Fi (l:Addr) (y:V) (H:Hp) (Q:VK):yM (.ref l) [y] H Q=∃ xs,H l=some (.lst xs)∧xs.length<sizeLine∧Q .non (upd H l (.lst (xs++[y]))):=by
 refine propext ⟨fun h=>?_,fun h=>?_⟩
 ·obtain ⟨_,xs,_,e1,e2,h⟩:=h
  cases e1;cases e2
  exact ⟨xs,h⟩
 ·obtain ⟨xs,h⟩:=h
  exact ⟨l,xs,y,rfl,rfl,h⟩
theorem CP (l:Addr) (H:Hp) (Q:VK):Lq (.ref l) [] H Q=∃ xs,H l=some (.lst xs)∧Q .non (upd H l (.lst xs.reverse)):=by
 refine propext ⟨fun h=>?_,fun h=>?_⟩
 ·obtain ⟨_,xs,e1,_,h⟩:=h
  cases e1
  exact ⟨xs,h⟩
 ·obtain ⟨xs,h⟩:=h
  exact ⟨l,xs,rfl,rfl,h⟩
def aaf:List V→Hp→VK→Prop:=fun xs H Q=>∃ i j,xs=[.int i,.int j]∧Q (.int (if j<i then j else i)) H
theorem LQ (i j:Int) (H:Hp) (Q:VK):aaf [.int i,.int j] H Q=Q (.int (if j<i then j else i)) H:=by
 refine propext ⟨fun h=>?_,fun h=>⟨i,j,rfl,h⟩⟩
 obtain ⟨_,_,e,h⟩:=h
 cases e
 exact h
theorem O9 (hc:X.calm=true):CallR X (.builtin "min") aaf:=T9 hc
def VN:List V→Hp→VK→Prop:=fun xs H Q=>(∃ i,xs=[.int i]∧Q (.int i) H)∨∃ k,xs=[.bl k]∧Q (.int (if k then 1 else 0)) H
theorem I9 (i:Int) (H:Hp) (Q:VK):VN [.int i] H Q=Q (.int i) H:=by
 refine propext ⟨fun h=>?_,fun h=>.inl ⟨i,rfl,h⟩⟩
 rcases h with ⟨_,e,h⟩ | ⟨_,e,h⟩
 ·cases e;exact h
 ·cases e
theorem LR (k:Bool) (H:Hp) (Q:VK):VN [.bl k] H Q=Q (.int (if k then 1 else 0)) H:=by
 refine propext ⟨fun h=>?_,fun h=>.inr ⟨k,rfl,h⟩⟩
 rcases h with ⟨_,e,h⟩ | ⟨_,e,h⟩
 ·cases e
 ·cases e;exact h
theorem Ue:CallR X (.type "int") VN:=Ua
theorem VP (CX:CXT) (P:Program) (w:World) (K:PySem.W.Frag) (mg:Str→Option Value) (base:Heap) (N:List Str) (qual:Str) (scope:Scope) (f:Addr) (cd:Value) (A:Around) (outer:List Env) (s:Shared) (H:Hp) (E:XK) :
  (cxOf CX P w K mg base N qual scope f cd A outer s H E).K=K:=rfl
theorem Ma:SlR X (YZ X.K):=Q5
variable {tg:Expr}
def iSq (K:PySem.W.Frag) (tl:TE):TI:=fun σ H R=>tl σ H fun x H1=>∃ a,x=.ref a∧(((∃ xs,SqL K H1 a xs)∧R (Itl K a) H1)∨((∃ xs,SqT K H1 a xs)∧R (Iv K a) H1))
theorem acD {l:Expr} {tl:TE} (hl:PE X l tl):PI X tg l (iSq X.K tl):=by
 intro pins s σ H R I h
 refine thn (hl pins s σ H _ I h) fun v s1 ⟨x,H1,I1,r1,q1⟩=>?_
 obtain ⟨a,e,q1⟩:=q1
 subst e
 cases r1
 rcases q1 with ⟨⟨xs,hq⟩,q⟩ | ⟨⟨xs,hq⟩,q⟩
 ·obtain ⟨its,rv,p,hz⟩:=I1.list hq
  refine wpAny_pyIter_list p.isList ?_
  refine ⟨s1.heap.objs.size,[s1.heap.objs.size],_,_,H1,rfl,I1.kept (t':=s1.toks) fun b o e=>Heap.get?_push_of_some _ e,turn_list a _,⟨_,Heap.get?_push_size _ rfl,rfl,rfl⟩,fun b hb=>?_,q⟩
  have e:b=s1.heap.objs.size:=by simpa using hb
  subst e
  exact I1.fpOk (Nat.le_refl _) (I1.hok.fresh (Nat.le_refl _))
 ·obtain ⟨its,rv,p,hz⟩:=I1.tuple hq
  refine wpAny_pyIter_tuple (show s1.heap.IsTuple a its.toArray from p) ?_
  refine ⟨s1.heap.objs.size,[s1.heap.objs.size],_,_,H1,rfl,I1.kept (t':=s1.toks) fun b o e=>Heap.get?_push_of_some _ e,OD a _,⟨_,Heap.get?_push_size _ rfl,rfl,rfl⟩,fun b hb=>?_,q⟩
  have e:b=s1.heap.objs.size:=by simpa using hb
  subst e
  exact I1.fpOk (Nat.le_refl _) (I1.hok.fresh (Nat.le_refl _))
end
theorem Same.Ar {K:PySem.W.Frag} {H H':Hp} {a:Addr} {xs:List V} (e:Same H H') (h:SqT K H a xs):SqT K H' a xs:=by
 rcases h with (h | ⟨o,h⟩) | h
 ·exact .inl (.inl (e _ _ h))
 ·exact .inl (.inr ⟨o,e _ _ h⟩)
 ·exact .inr h
theorem Same.sq {K:PySem.W.Frag} {H H':Hp} {a:Addr} {xs:List V} (e:Same H H') (h:bQ K H a xs):bQ K H' a xs:=h.elim (fun h=>.inl (e.seq h)) fun h=>.inr (e.Ar h)
theorem Same.new {H:Hp} {a:Addr} {o:HO} (h:H a=none):Same H (upd H a o):=fun b u e=>by rw [upd_ne (ne_of_none e h)];exact e
theorem bQ.of {K:PySem.W.Frag} {H:Hp} {a:Addr} {xs:List V} (h:H a=some (.lst xs)):bQ K H a xs:=.inl (SqL.of h)
theorem bQ.ofT {K:PySem.W.Frag} {H:Hp} {a:Addr} {xs:List V} (h:H a=some (.tup xs)):bQ K H a xs:=.inr (SqT.of h)
theorem abm {K:PySem.W.Frag} {a:Addr} {xs:List V} {g:TG} {tb:TS} {D:Ends} {σ:St} {H:Hp} (hS:bQ K H a xs) (Pv:Nat→St→Hp→Prop) (h0:Pv 0 σ H) (hl:∀ i σ H2,i≤xs.length→Pv i σ H2→Same H H2)
  (hs:∀ i x σ H,xs[i]? = some x→Pv i σ H→g x σ H fun σ2 H2=>tb { D with nx:=Pv (i+1),ct:=Pv (i+1),bk:=D.nx } σ2 H2) (hd:∀ σ H,Pv xs.length σ H→D.nx σ H) :
  ((∃ xs,SqL K H a xs)∧∃ W:Nat→Nat→St→Hp→Prop,(∃ m,W 0 m σ H)∧∀ i m σ H,W i m σ H →
   ((Itl K a).stop i H∧D.nx σ H)∨((Itl K a).go i H∧∃ N:St→Hp→Prop,(∀ σ' H',N σ' H'→∃ m',m'<m∧W (i+1) m' σ' H')∧∀ x H',(Itl K a).yld i H x H'→g x σ H' fun σ2 H2=>tb { D with nx:=N,ct:=N,bk:=D.nx } σ2 H2)) ∨
  ((∃ xs,SqT K H a xs)∧∃ W:Nat→Nat→St→Hp→Prop,(∃ m,W 0 m σ H)∧∀ i m σ H,W i m σ H →
   ((Iv K a).stop i H∧D.nx σ H)∨((Iv K a).go i H∧∃ N:St→Hp→Prop,(∀ σ' H',N σ' H'→∃ m',m'<m∧W (i+1) m' σ' H')∧∀ x H',(Iv K a).yld i H x H'→g x σ H' fun σ2 H2=>tb { D with nx:=N,ct:=N,bk:=D.nx } σ2 H2)):=by
 rcases hS with h | h
 ·exact .inl ⟨⟨xs,h⟩,for_list Pv h0 (fun i σ H2 hi p=>(hl i σ H2 hi p).seq h) hs hd⟩
 ·exact .inr ⟨⟨xs,h⟩,JR Pv h0 (fun i σ H2 hi p=>(hl i σ H2 hi p).Ar h) hs hd⟩
def mj (lo:Int) (n:Nat) (g:TG) (tb:TS) (D:Ends) (σ:St) (H:Hp):Prop:=∃ W:Nat→Nat→St→Hp→Prop,(∃ m,W 0 m σ H)∧∀ i m σ H,W i m σ H →
 ((T5 lo n).stop i H∧D.nx σ H)∨((T5 lo n).go i H∧∃ N:St→Hp→Prop,(∀ σ' H',N σ' H'→∃ m',m'<m∧W (i+1) m' σ' H')∧∀ x H',(T5 lo n).yld i H x H'→g x σ H' fun σ2 H2=>tb { D with nx:=N,ct:=N,bk:=D.nx } σ2 H2)
theorem mj.by {lo:Int} {n:Nat} {g:TG} {tb:TS} {D:Ends} {σ:St} {H:Hp} (Pv:Nat→St→Hp→Prop) (h0:Pv 0 σ H)
  (hs:∀ i σ H,i<n→Pv i σ H→g (.int (lo+i)) σ H fun σ2 H2=>tb { D with nx:=Pv (i+1),ct:=Pv (i+1),bk:=D.nx } σ2 H2) (hd:∀ σ H,Pv n σ H→D.nx σ H):mj lo n g tb D σ H:=T8 Pv h0 hs hd
def pU (K:PySem.W.Frag) (a:Addr) (g:TG) (tb:TS) (D:Ends) (σ:St) (H:Hp):Prop :=
  ((∃ xs,SqL K H a xs)∧∃ W:Nat→Nat→St→Hp→Prop,(∃ m,W 0 m σ H)∧∀ i m σ H,W i m σ H →
   ((Itl K a).stop i H∧D.nx σ H)∨((Itl K a).go i H∧∃ N:St→Hp→Prop,(∀ σ' H',N σ' H'→∃ m',m'<m∧W (i+1) m' σ' H')∧∀ x H',(Itl K a).yld i H x H'→g x σ H' fun σ2 H2=>tb { D with nx:=N,ct:=N,bk:=D.nx } σ2 H2)) ∨
  ((∃ xs,SqT K H a xs)∧∃ W:Nat→Nat→St→Hp→Prop,(∃ m,W 0 m σ H)∧∀ i m σ H,W i m σ H →
   ((Iv K a).stop i H∧D.nx σ H)∨((Iv K a).go i H∧∃ N:St→Hp→Prop,(∀ σ' H',N σ' H'→∃ m',m'<m∧W (i+1) m' σ' H')∧∀ x H',(Iv K a).yld i H x H'→g x σ H' fun σ2 H2=>tb { D with nx:=N,ct:=N,bk:=D.nx } σ2 H2))
theorem pU.by {K:PySem.W.Frag} {a:Addr} {xs:List V} {g:TG} {tb:TS} {D:Ends} {σ:St} {H:Hp} (hS:bQ K H a xs) (Pv:Nat→St→Hp→Prop) (h0:Pv 0 σ H) (hl:∀ i σ H2,i≤xs.length→Pv i σ H2→Same H H2)
  (hs:∀ i x σ H,xs[i]? = some x→Pv i σ H→g x σ H fun σ2 H2=>tb { D with nx:=Pv (i+1),ct:=Pv (i+1),bk:=D.nx } σ2 H2) (hd:∀ σ H,Pv xs.length σ H→D.nx σ H):pU K a g tb D σ H:=abm hS Pv h0 hl hs hd
def Wh (W:Nat→St→Hp→Prop) (m:Nat) (tb:TS) (D:Ends) (σ:St) (H1:Hp):Prop:=∃ N:St→Hp→Prop,(∀ σ' H',N σ' H'→∃ m',m'<m∧W m' σ' H')∧tb { D with nx:=N,ct:=N,bk:=D.nx } σ H1
theorem Wh.by {W:Nat→St→Hp→Prop} {m:Nat} {tb:TS} {D:Ends} {σ:St} {H1:Hp} (h:tb { D with nx:=fun σ' H'=>∃ m',m'<m∧W m' σ' H',ct:=fun σ' H'=>∃ m',m'<m∧W m' σ' H',bk:=D.nx } σ H1):Wh W m tb D σ H1 :=
 ⟨_,fun _ _ x=>x,h⟩
theorem yO {c:TT} {tb:TS} {D:Ends} {σ:St} {H:Hp} (W:Nat→St→Hp→Prop) (m0:Nat) (h0:W m0 σ H) (hs:∀ m σ H,W m σ H→c σ H fun b H1=>if b=true then Wh W m tb D σ H1 else D.nx σ H1):Oz c tb D σ H:=⟨W,⟨m0,h0⟩,hs⟩
theorem mj.go {lo:Int} {n:Nat} {g:TG} {tb:TS} {D:Ends} {σ:St} {H:Hp} (Pv:Nat→St→Hp→Prop) (h0:Pv 0 σ H)
  (hs:∀ (i:Nat) (σ:St) (H:Hp) (N:St→Hp→Prop),i<n→Pv i σ H→(∀ σ' H',Pv (i+1) σ' H'→N σ' H')→g (.int (lo+i)) σ H fun σ2 H2=>tb { D with nx:=N,ct:=N,bk:=D.nx } σ2 H2) (hd:∀ σ H,Pv n σ H→D.nx σ H):mj lo n g tb D σ H :=
 mj.by Pv h0 (fun i σ H hi p=>hs i σ H _ hi p fun _ _ q=>q) hd
theorem pU.go {K:PySem.W.Frag} {a:Addr} {xs:List V} {g:TG} {tb:TS} {D:Ends} {σ:St} {H:Hp} (hS:bQ K H a xs) (Pv:Nat→St→Hp→Prop) (h0:Pv 0 σ H) (hl:∀ i σ H2,i≤xs.length→Pv i σ H2→Same H H2)
  (hs:∀ (i:Nat) (x:V) (σ:St) (H:Hp) (N:St→Hp→Prop),xs[i]? = some x→Pv i σ H→(∀ σ' H',Pv (i+1) σ' H'→N σ' H')→g x σ H fun σ2 H2=>tb { D with nx:=N,ct:=N,bk:=D.nx } σ2 H2) (hd:∀ σ H,Pv xs.length σ H→D.nx σ H):pU K a g tb D σ H :=
 pU.by hS Pv h0 hl (fun i x σ H hi p=>hs i x σ H _ hi p fun _ _ q=>q) hd
theorem Wh.go {W:Nat→St→Hp→Prop} {m:Nat} {tb:TS} {D:Ends} {σ:St} {H1:Hp} (h:∀ N:St→Hp→Prop,(∀ m' σ' H',m'<m→W m' σ' H'→N σ' H')→tb { D with nx:=N,ct:=N,bk:=D.nx } σ H1):Wh W m tb D σ H1 :=
 Wh.by (h _ fun m' σ' H' hm w=>⟨m',hm,w⟩)
end L2
namespace L2
open PySem PySem.Spec PyProof.Rows
theorem Ri (v:V) (r:St) (H:Hp) (Q:VK):tVar 0 (some v::r) H Q=Q v H:=by
 refine propext ⟨fun ⟨_,e,q⟩=>?_,fun q=>⟨v,rfl,q⟩⟩
 cases e;exact q
theorem Rj (i:Nat) (o:Option V) (r:St) (H:Hp) (Q:VK):tVar (i+1) (o::r) H Q=tVar i r H Q:=rfl
theorem acE (v:V) (σ:St) (H:Hp) (Q:VK):tC v σ H Q=Q v H:=rfl
theorem aag (r:R2) (ta tb:TE) (σ:St) (H:Hp) (Q:VK):tOp r ta tb σ H Q=ta σ H fun x H1=>tb σ H1 fun y H2=>r x y H2 Q:=rfl
theorem aah (r:V→Hp→VK→Prop) (ta:TE) (σ:St) (H:Hp) (Q:VK):tUn r ta σ H Q=ta σ H fun x H1=>r x H1 Q:=rfl
theorem aai (C:Int→Int→Prop) (g:Int→Int→V) (i j:Int) (H:Hp) (Q:VK):rI C g (.int i) (.int j) H Q=(C i j∧Q (g i j) H):=by
 refine propext ⟨fun ⟨_,_,e1,e2,c,q⟩=>?_,fun ⟨c,q⟩=>⟨i,j,rfl,rfl,c,q⟩⟩
 cases e1;cases e2;exact ⟨c,q⟩
theorem VR (g:Int→Int→V) (i j:Int) (H:Hp) (Q:VK):rI0 g (.int i) (.int j) H Q=Q (g i j) H:=by
 refine propext ⟨fun ⟨_,_,e1,e2,q⟩=>?_,fun q=>⟨i,j,rfl,rfl,q⟩⟩
 cases e1;cases e2;exact q
theorem aaj (g:Int→V) (i:Int) (H:Hp) (Q:VK):rU g (.int i) H Q=Q (g i) H:=by
 refine propext ⟨fun ⟨_,e1,q⟩=>?_,fun q=>⟨i,rfl,q⟩⟩
 cases e1;exact q
theorem V0 (i j:Int) (H:Hp) (Q:VK):rEq (.int i) (.int j) H Q=Q (.bl (decide (i=j))) H:=by
 have e:decide (V.int i=V.int j)=decide (i=j):=by simp
 refine propext ⟨fun ⟨_,q⟩=>by rw [e] at q;exact q,fun q=>⟨rfl,by rw [e];exact q⟩⟩
theorem V1 (i j:Int) (H:Hp) (Q:VK):rNe (.int i) (.int j) H Q=Q (.bl (!decide (i=j))) H:=by
 have e:decide (V.int i=V.int j)=decide (i=j):=by simp
 refine propext ⟨fun ⟨_,q⟩=>by rw [e] at q;exact q,fun q=>⟨rfl,by rw [e];exact q⟩⟩
theorem V2 (i j:Str) (H:Hp) (Q:VK):rEq (.str i) (.str j) H Q=Q (.bl (decide (i=j))) H:=by
 have e:decide (V.str i=V.str j)=decide (i=j):=by simp
 refine propext ⟨fun ⟨_,q⟩=>by rw [e] at q;exact q,fun q=>⟨rfl,by rw [e];exact q⟩⟩
theorem V3 (i j:Str) (H:Hp) (Q:VK):rNe (.str i) (.str j) H Q=Q (.bl (!decide (i=j))) H:=by
 have e:decide (V.str i=V.str j)=decide (i=j):=by simp
 refine propext ⟨fun ⟨_,q⟩=>by rw [e] at q;exact q,fun q=>⟨rfl,by rw [e];exact q⟩⟩
theorem V4 (i j:Bool) (H:Hp) (Q:VK):rEq (.bl i) (.bl j) H Q=Q (.bl (decide (i=j))) H:=by
 have e:decide (V.bl i=V.bl j)=decide (i=j):=by simp
 refine propext ⟨fun ⟨_,q⟩=>by rw [e] at q;exact q,fun q=>⟨rfl,by rw [e];exact q⟩⟩
def asB (x:V) (R:Bool→Prop):Prop:=∃ k,x=.bl k∧R k
theorem V5 (k:Bool) (R:Bool→Prop):asB (.bl k) R=R k:=by
 refine propext ⟨fun ⟨_,e,q⟩=>?_,fun q=>⟨k,rfl,q⟩⟩
 cases e;exact q
def abn (vs:List V) (R:Int→Prop):Prop:=∃ j,vs=[.int j]∧R j
theorem Rk (j:Int) (R:Int→Prop):abn [.int j] R=R j:=by
 refine propext ⟨fun ⟨_,e,q⟩=>?_,fun q=>⟨j,rfl,q⟩⟩
 cases e;exact q
def abo (vs:List V) (R:Int→Int→Prop):Prop:=∃ i j,vs=[.int i,.int j]∧R i j
theorem Rm (i j:Int) (R:Int→Int→Prop):abo [.int i,.int j] R=R i j:=by
 refine propext ⟨fun ⟨_,_,e,q⟩=>?_,fun q=>⟨i,j,rfl,q⟩⟩
 cases e;exact q
def Ja (x:V) (R:Addr→Prop):Prop:=∃ a,x=.ref a∧R a
theorem V6 (a:Addr) (R:Addr→Prop):Ja (.ref a) R=R a:=by
 refine propext ⟨fun ⟨_,e,q⟩=>?_,fun q=>⟨a,rfl,q⟩⟩
 cases e;exact q
def asI (x:V) (R:Int→Prop):Prop:=∃ i,x=.int i∧R i
theorem V7 (i:Int) (R:Int→Prop):asI (.int i) R=R i:=by
 refine propext ⟨fun ⟨_,e,q⟩=>?_,fun q=>⟨i,rfl,q⟩⟩
 cases e;exact q
theorem Rn (t:TE) (σ:St) (H:Hp) (Q:Bool→Hp→Prop):tTest t σ H Q=t σ H fun x H'=>asB x fun k=>Q k H':=rfl
theorem aak (t:TE) (σ:St) (H:Hp) (Q:Bool→Hp→Prop):tB t σ H Q=t σ H fun x H'=>asB x fun k=>Q k H':=rfl
theorem V8 (t u:TT) (σ:St) (H:Hp) (Q:Bool→Hp→Prop):aaQ t u σ H Q=t σ H fun c H1=>if c=true then u σ H1 Q else Q false H1:=rfl
theorem aal (t u:TT) (σ:St) (H:Hp) (Q:Bool→Hp→Prop):tOr t u σ H Q=t σ H fun c H1=>if c=true then Q true H1 else u σ H1 Q:=rfl
theorem V9 (t:TT) (σ:St) (H:Hp) (Q:Bool→Hp→Prop):aaR t σ H Q=t σ H fun c H1=>Q (!c) H1:=rfl
theorem Ro (ta tb:TE) (σ:St) (H:Hp) (Q:VK):Vf ta tb σ H Q=ta σ H fun x H1=>asB x fun c=>if c=true then tb σ H1 Q else Q (.bl false) H1:=rfl
theorem Rq (ta:TE) (σ:St) (H:Hp) (Q:VK):Vg ta σ H Q=ta σ H fun x H1=>asB x fun c=>Q (.bl (!c)) H1:=rfl
theorem aam (t:TT) (ta tb:TE) (σ:St) (H:Hp) (Q:VK):tIf t ta tb σ H Q=t σ H fun c H1=>if c=true then ta σ H1 Q else tb σ H1 Q:=rfl
theorem Wa (t u:TS) (D:Ends) (σ:St) (H:Hp):tSeq t u D σ H=t { D with nx:=u D } σ H:=rfl
theorem Rr (D:Ends) (σ:St) (H:Hp):tNext D σ H=D.nx σ H:=rfl
theorem Wb (c:TT) (t u:TS) (D:Ends) (σ:St) (H:Hp):tIfS c t u D σ H=c σ H fun b H1=>if b=true then t D σ H1 else u D σ H1:=rfl
theorem Wc (te:TE) (D:Ends) (σ:St) (H:Hp):tRet te D σ H=te σ H D.rt:=rfl
theorem Rt (te:TE) (D:Ends) (σ:St) (H:Hp):tDrop te D σ H=te σ H fun _ H1=>D.nx σ H1:=rfl
theorem Wd (te:TE) (g:TG) (D:Ends) (σ:St) (H:Hp):tAsg te g D σ H=te σ H fun x H1=>g x σ H1 D.nx:=rfl
theorem Ep (i:Nat) (v:V) (σ:St) (H:Hp) (Q:St→Hp→Prop):gName i v σ H Q=Q (σ.set i (some v)) H:=rfl
theorem Wf (to ti:TE) (t:JQ) (v:V) (σ:St) (H:Hp) (Q:St→Hp→Prop):Vo to ti t v σ H Q=to σ H fun o H1=>ti σ H1 fun i H2=>t o i v H2 fun H3=>Q σ H3:=rfl
theorem Ru (p:Addr) (k:Int) (v:V) (H:Hp) (Q:Hp→Prop):Q0 (.ref p) (.int k) v H Q=∃ xs,H p=some (.lst xs)∧∃ j,ixN xs.length k=some j∧Q (upd H p (.lst (xs.set j v))):=by
 refine propext ⟨fun ⟨_,xs,_,j,e1,e2,h,h',q⟩=>?_,fun ⟨xs,h,j,h',q⟩=>⟨p,xs,k,j,rfl,rfl,h,h',q⟩⟩
 cases e1;cases e2;exact ⟨xs,h,j,h',q⟩
theorem Rv (sp:Sp) (E:XK) (t:TA) (σ:St) (H:Hp) (Q:VK):tCall sp [] E t σ H Q=t σ H fun vs H1=>sp vs H1 Q E:=by
 unfold tCall;simp only [List.append_nil]
theorem aan (r:List V→Hp→VK→Prop) (t:TA) (σ:St) (H:Hp) (Q:VK):tCB r t σ H Q=t σ H fun vs H1=>r vs H1 Q:=rfl
theorem Wg (σ:St) (H:Hp) (Q:List V→Hp→Prop):tNil σ H Q=Q [] H:=rfl
theorem Rw (ta:TE) (tr:TA) (σ:St) (H:Hp) (Q:List V→Hp→Prop):tCons ta tr σ H Q=ta σ H fun x H1=>tr σ H1 fun xs H2=>Q (x::xs) H2:=rfl
theorem Wi (t:TA) (σ:St) (H:Hp) (Q:VK):aa4 t σ H Q=t σ H fun xs H1=>xs.length≤sizeLine∧∀ p,H1 p=none→Q (.ref p) (upd H1 p (.tup xs)):=rfl
theorem Wj (t:TA) (σ:St) (H:Hp) (Q:VK):tLst t σ H Q=t σ H fun xs H1=>xs.length≤sizeLine∧∀ p,H1 p=none→Q (.ref p) (upd H1 p (.lst xs)):=rfl
theorem Wk (K:PySem.W.Frag) (T:String) (r:V→List V→Hp→VK→Prop) (to:TE) (σ:St) (H:Hp) (Q:VK):abd K T r to σ H Q=to σ H fun x H1=>Y0 K T x H1∧r x [] H1 Q:=rfl
theorem aao (K:PySem.W.Frag) (T:String) (r:V→List V→Hp→VK→Prop) (to:TE) (t:TA) (σ:St) (H:Hp) (Q:VK):tBM K T r to t σ H Q=to σ H fun x H1=>Y0 K T x H1∧t σ H1 fun xs H2=>r x xs H2 Q:=rfl
theorem Rx (ta:TA) (g:TG) (tb:TS) (D:Ends) (σ:St) (H:Hp):tFor (Iw ta) g tb D σ H=ta σ H (fun vs H1=>abn vs fun j=>-(2 ^ 62)≤j∧j<2 ^ 62∧mj 0 j.toNat g tb D σ H1):=rfl
theorem Ry (ta:TA) (g:TG) (tb:TS) (D:Ends) (σ:St) (H:Hp):tFor (QV ta) g tb D σ H=ta σ H (fun vs H1=>abo vs fun i j=>(-(2 ^ 62)≤i∧i<2 ^ 62∧-(2 ^ 62)≤j∧j<2 ^ 62)∧mj i (j - i).toNat g tb D σ H1):=rfl
theorem Rz (K:PySem.W.Frag) (tl:TE) (g:TG) (tb:TS) (D:Ends) (σ:St) (H:Hp):tFor (iSq K tl) g tb D σ H=tl σ H (fun x H1=>Ja x fun a=>pU K a g tb D σ H1):=rfl
theorem Mf (N:List Str) (vs:List V):L2.start N vs=vs.map some++List.replicate (N.length - vs.length) none:=rfl
theorem RB {A B:Prop}:(if true=true then A else B)=A:=if_pos rfl
theorem RG {A B:Prop}:(if false=true then A else B)=B:=if_neg Bool.false_ne_true
theorem RJ {c A B:Prop} [Decidable c]:(if decide c=true then A else B)=(if c then A else B):=by simp only [decide_eq_true_eq]
theorem RK {c A B:Prop} [Decidable c]:(if (!decide c)=true then A else B)=(if c then B else A):=by
 by_cases h:c <;> simp [h]
theorem Mg {b:Bool} {A B:Prop}:(if (!b)=true then A else B)=(if b=true then B else A):=by cases b <;> rfl
theorem aap (b:Bool):(!(!b))=b:=Bool.not_not b
theorem aaq (r:V→Option Int→Option Int→Hp→VK→Prop) (te:TE) (tl th:TO) (σ:St) (H:Hp) (Q:VK):tSl r te tl th σ H Q=te σ H fun x H1=>tl σ H1 fun l H2=>th σ H2 fun u H3=>r x l u H3 Q:=rfl
theorem Jb (σ:St) (H:Hp) (Q:Option Int→Hp→Prop):JT σ H Q=Q none H:=rfl
theorem RL (t:TE) (σ:St) (H:Hp) (Q:Option Int→Hp→Prop):Vu t σ H Q=t σ H fun x H1=>asI x fun i=>Q (some i) H1:=rfl
theorem Wm (K:PySem.W.Frag) (a:Addr) (lo hi:Option Int) (H:Hp) (Q:VK):YZ K (.ref a) lo hi H Q=∃ xs,SqL K H a xs∧∀ p,H p=none→Q (.ref p) (upd H p (.lst (uU xs lo hi))):=by
 refine propext ⟨fun ⟨_,xs,e,h,q⟩=>?_,fun ⟨xs,h,q⟩=>⟨a,xs,rfl,h,q⟩⟩
 cases e;exact ⟨xs,h,q⟩
theorem Wn (l b:Addr) (H:Hp) (Q:VK):rCat (.ref l) (.ref b) H Q=∃ xs zs,H l=some (.lst xs)∧H b=some (.lst zs)∧xs.length+zs.length≤sizeLine∧∀ p,H p=none→Q (.ref p) (upd H p (.lst (xs++zs))):=by
 refine propext ⟨fun ⟨_,_,xs,zs,e1,e2,h⟩=>?_,fun ⟨xs,zs,h⟩=>⟨l,b,xs,zs,rfl,rfl,h⟩⟩
 cases e1;cases e2;exact ⟨xs,zs,h⟩
theorem RM (σ:St) (H:Hp) (Q:VK):tDNewK σ H Q=∀ d,H d=none→Q (.ref d) (upd H d (.dK [])):=rfl
theorem Wo (ty td:TE) (σ:St) (H:Hp) (Q:VK):tDIn ty td σ H Q=ty σ H fun y H1=>td σ H1 fun x H2=>Ja x fun a=>∃ o,DGet H2 a y o∧Q (.bl o.isSome) H2:=by
 unfold tDIn Ja
 congr;funext y H1;congr;funext x H2
 exact propext ⟨fun ⟨a,o,e,h⟩=>⟨a,e,o,h⟩,fun ⟨a,e,o,h⟩=>⟨a,o,e,h⟩⟩
theorem Jc (ty td:TE) (σ:St) (H:Hp) (Q:VK):tDNotIn ty td σ H Q=ty σ H fun y H1=>td σ H1 fun x H2=>Ja x fun a=>∃ o,DGet H2 a y o∧Q (.bl (!o.isSome)) H2:=by
 unfold tDNotIn Ja
 congr;funext y H1;congr;funext x H2
 exact propext ⟨fun ⟨a,o,e,h⟩=>⟨a,e,o,h⟩,fun ⟨a,e,o,h⟩=>⟨a,o,e,h⟩⟩
theorem RN (td ty:TE) (σ:St) (H:Hp) (Q:VK):Q7 td ty σ H Q=td σ H fun x H1=>ty σ H1 fun y H2=>Ja x fun a=>∃ v,DGet H2 a y (some v)∧Q v H2:=by
 unfold Q7 Ja
 congr;funext y H1;congr;funext x H2
 exact propext ⟨fun ⟨a,o,e,h⟩=>⟨a,e,o,h⟩,fun ⟨a,e,o,h⟩=>⟨a,o,e,h⟩⟩
theorem RP (td ty tv:TE) (D:Ends) (σ:St) (H:Hp):sDPut td ty tv D σ H=tv σ H fun v H1=>td σ H1 fun x H2=>ty σ H2 fun y H3=>Ja x fun a=>∃ H4,DPut H3 a y v H4∧D.nx σ H4:=by
 unfold sDPut Ja
 congr;funext v H1;congr;funext x H2;congr;funext y H3
 exact propext ⟨fun ⟨a,o,e,h⟩=>⟨a,e,o,h⟩,fun ⟨a,e,o,h⟩=>⟨a,o,e,h⟩⟩
theorem Wq (l:Addr) (k:Int) (H:Hp) (Q:VK):acy (.ref l) (.int k) H Q=∃ xs,H l=some (.lst xs)∧-(2 ^ 63)≤k∧k<2 ^ 63∧xs.length*k.toNat≤sizeLine∧∀ p,H p=none→Q (.ref p) (upd H p (.lst (List.replicate k.toNat xs).flatten)):=by
 refine propext ⟨fun ⟨_,_,xs,e1,e2,h⟩=>?_,fun ⟨xs,h⟩=>⟨l,k,xs,rfl,rfl,h⟩⟩
 cases e1;cases e2;exact ⟨xs,h⟩
end L2
namespace L2
open PySem PySem.Spec PyProof.Rows
theorem Wr {K:PySem.W.Frag} {h:Heap} {mg:Str→Option Value} {x:Str} {st:Stmt} {ps:List Str} {f:Addr} {oc:Value} {od an:Option Addr} {osl:Array (Option Value)} {kV doc pm cdv ct:Value} (X:K.In h) (G:h.Ns mainGlobals mg)
  (a:PySem.W.nsIn K mainGlobals x=some (some (.ref f))) (l:K.lookup f=some ⟨oc,od,.func (PySem.W.fnOf x x (defArgs st) (defBody st) (defScope st) .none kV doc pm an cdv ct),osl⟩) (c:PySem.W.codeIn K cdv x=true) (k:PySem.W.keepIn K (.ref f)=true)
  (hb:∀ (kV doc pm:Value) (an:Option Addr) (cdv ct:Value) (us:List Value),us.length=ps.length→bindArgs (PySem.W.fnOf x x (defArgs st) (defBody st) (defScope st) .none kV doc pm an cdv ct) ⟨us,[]⟩=pure (ps.zip us)):aN K mg x st ps :=
 ⟨f,_,fun_mk l c k,PySem.W.mg_of X G a,(fun_mk l c k).binds hb⟩
theorem abp {P:Program} {w:World} {K:PySem.W.Frag} {h:Heap} {mg:Str→Option Value} {st:Stmt} {p:Str} {fa f:Addr} {kk:Nat} {sp:Sp} {oc:Value} {od an:Option Addr} {osl:Array (Option Value)} {kV doc pm cdv ct:Value} (X:K.In h) (G:h.Ns mainGlobals mg)
  (hfa:mg "law" = some (.ref fa)) (a:PySem.W.nsIn K mainGlobals "law" = some (some (.ref f))) (l:K.lookup f=some ⟨oc,od,.func (PySem.W.fnOf "law" "law" (defArgs st) (defBody st) (defScope st) .none kV doc pm an cdv ct),osl⟩) (c:PySem.W.codeIn K cdv "law" = true) (k:PySem.W.keepIn K (.ref f)=true)
  (hb:∀ (s:Shared) (v:Value),BindsTo s (PySem.W.fnOf "law" "law" (defArgs st) (defBody st) (defScope st) .none kV doc pm an cdv ct) ⟨[v],[]⟩ [(p,v)])
  (R:∀ (base:Heap) (fd:FuncData),Fun K "law" "law" st f fd→FnOk P w K mg base CX0 kk f fd [p] sp) :
  ∃ fd:FuncData,(∀ (s:Shared) (v:Value),BindsTo s fd ⟨[v],[]⟩ [(p,v)])∧∀ base:Heap,K.In base→base.Ns mainGlobals mg→FnOk P w K mg base CX0 kk fa fd [p] sp:=by
 have e:=hfa.symm.trans (PySem.W.mg_of X G a)
 cases e
 exact ⟨_,hb,fun base _ _=>R base _ (fun_mk l c k)⟩
end L2
namespace L2
open PySem PySem.Spec PyProof.Rows
theorem u6 {mg:Str→Option Value} {x:Str} {v:Value} {i:Int} (h:mg x=some v) (e:∃ t,v=.int i t):GI mg x i:=by
 obtain ⟨t,rfl⟩:=e
 exact ⟨t,h⟩
end L2
namespace L2
open PySem PySem.Spec PyProof.Rows
theorem Mh {t u:TS} {D:Ends} {σ:St} {H:Hp} (R:St→Hp→Prop) (ht:∀ N:St→Hp→Prop,(∀ σ' H',R σ' H'→N σ' H')→t { D with nx:=N } σ H) (hu:∀ σ' H',R σ' H'→u D σ' H'):tSeq t u D σ H:=ht (u D) hu
end L2
namespace L2
open PySem PySem.Spec PyProof.Rows
theorem Er {K:PySem.W.Frag} {H H':Hp} {a:Addr} {xs:List V} (e:∀ o,H a=some o→H' a=some o) (h:SqL K H a xs):SqL K H' a xs:=by
 rcases h with (h | ⟨o,h⟩) | h
 ·exact .inl (.inl (e _ h))
 ·exact .inl (.inr ⟨o,e _ h⟩)
 ·exact .inr h
theorem Y8 {K:PySem.W.Frag} {H H':Hp} {a:Addr} {xs:List V} (e:∀ o,H a=some o→H' a=some o) (h:SqT K H a xs):SqT K H' a xs:=by
 rcases h with (h | ⟨o,h⟩) | h
 ·exact .inl (.inl (e _ h))
 ·exact .inl (.inr ⟨o,e _ h⟩)
 ·exact .inr h
theorem pU.at {K:PySem.W.Frag} {a:Addr} {xs:List V} {g:TG} {tb:TS} {D:Ends} {σ:St} {H:Hp} (hS:bQ K H a xs) (Pv:Nat→St→Hp→Prop) (h0:Pv 0 σ H) (hl:∀ i σ H2,i≤xs.length→Pv i σ H2→∀ o,H a=some o→H2 a=some o)
  (hs:∀ (i:Nat) (x:V) (σ:St) (H:Hp) (N:St→Hp→Prop),xs[i]? = some x→Pv i σ H→(∀ σ' H',Pv (i+1) σ' H'→N σ' H')→g x σ H fun σ2 H2=>tb { D with nx:=N,ct:=N,bk:=D.nx } σ2 H2) (hd:∀ σ H,Pv xs.length σ H→D.nx σ H):pU K a g tb D σ H:=by
 rcases hS with h | h
 ·exact .inl ⟨⟨xs,h⟩,for_list Pv h0 (fun i σ H2 hi p=>Er (hl i σ H2 hi p) h) (fun i x σ H hi p=>hs i x σ H _ hi p fun _ _ q=>q) hd⟩
 ·exact .inr ⟨⟨xs,h⟩,JR Pv h0 (fun i σ H2 hi p=>Y8 (hl i σ H2 hi p) h) (fun i x σ H hi p=>hs i x σ H _ hi p fun _ _ q=>q) hd⟩
end L2
namespace L2
open PySem PySem.Spec PyProof.Rows
def jB (env:Env) (cs:List (Str×Addr)) (y:Str×NameKind):List (Str×Addr):=if y.2 == .free then (y.1,(env.cells.lookup y.1).getD 0)::cs else cs
def Dq (scope:Scope) (env:Env):List (Str×Addr):=scope.names.foldl (jB env) []
theorem xT {env:Env}:∀ (l:List (Str×NameKind)) (cs:List (Str×Addr)),(∀ y∈l,y.2=.free→∃ c,env.cells.lookup y.1=some c) →
  (forIn l cs (fun (y:Str×NameKind) (r:List (Str×Addr))=>if (y.2 == .free)=true then (do let c ←cellOf env y.1;pure (ForInStep.yield ((y.1,c)::r))) else pure (ForInStep.yield r)):Sem (List (Str×Addr)))=pure (l.foldl (jB env) cs)
 | [],cs,_=>by simp
 | y::r,cs,h=>by
  rw [List.forIn_cons,List.foldl_cons]
  by_cases hy:(y.2 == .free)=true
  ·obtain ⟨c,hc⟩:=h y List.mem_cons_self (beq_iff_eq.mp hy)
   have e:cellOf env y.1=pure c:=by unfold cellOf;rw [hc]
   have e2:jB env cs y=(y.1,c)::cs:=by unfold jB;rw [if_pos hy,hc];rfl
   rw [if_pos hy,e,e2]
   simp only [pure_bind]
   exact xT r _ fun z hz=>h z (List.mem_cons_of_mem _ hz)
  ·have e2:jB env cs y=cs:=by unfold jB;rw [if_neg hy]
   rw [if_neg hy,e2]
   simp only [pure_bind]
   exact xT r _ fun z hz=>h z (List.mem_cons_of_mem _ hz)
theorem xU {scope:Scope} {env:Env} (h:∀ y∈scope.names,y.2=.free→∃ c,env.cells.lookup y.1=some c):closureFor scope env=pure (Dq scope env):=by
 have e:=xT scope.names [] h
 unfold closureFor Dq
 rw [←e]
 first
  | rfl
  | simp only [bind_pure]
  | (simp only [bind_pure];rfl)
theorem Ws {env:Env}:∀ (l:List (Str×NameKind)) (cs:List (Str×Addr)),(∀ y∈l,y.2=.free→∃ c,env.cells.lookup y.1=some c)→(∀ p∈cs,env.cells.lookup p.1=some p.2)→∀ p∈l.foldl (jB env) cs,env.cells.lookup p.1=some p.2
 | [],cs,_,h2,p,hp=>h2 p hp
 | y::r,cs,h,h2,p,hp=>by
  refine Ws r (jB env cs y) (fun z hz=>h z (List.mem_cons_of_mem _ hz)) (fun q hq=>?_) p hp
  unfold jB at hq
  by_cases hy:(y.2 == .free)=true
  ·rw [if_pos hy] at hq
   obtain ⟨c,hc⟩:=h y List.mem_cons_self (beq_iff_eq.mp hy)
   rcases List.mem_cons.mp hq with e | e
   ·subst e;show env.cells.lookup y.1=some ((env.cells.lookup y.1).getD 0);rw [hc];rfl
   ·exact h2 q e
  ·rw [if_neg hy] at hq
   exact h2 q hq
theorem Pa {env:Env} {x:Str}:∀ (l:List (Str×NameKind)) (cs:List (Str×Addr)),((∃ y∈l,y.2=.free∧y.1=x)∨∃ p∈cs,p.1=x)→∃ p∈l.foldl (jB env) cs,p.1=x
 | [],cs,h=>by
  rcases h with ⟨y,hy,_⟩ | h
  ·cases hy
  ·exact h
 | y::r,cs,h=>by
  refine Pa r (jB env cs y) ?_
  rcases h with ⟨z,hz,h1,h2⟩ | ⟨p,hp,h1⟩
  ·rcases List.mem_cons.mp hz with e | e
   ·subst e
    refine .inr ⟨(z.1,(env.cells.lookup z.1).getD 0),?_,h2⟩
    unfold jB
    rw [if_pos (by rw [h1];rfl)]
    exact List.mem_cons_self
   ·exact .inl ⟨z,e,h1,h2⟩
  ·refine .inr ⟨p,?_,h1⟩
   unfold jB
   split
   ·exact List.mem_cons_of_mem _ hp
   ·exact hp
theorem gQ {α:Type} {x:Str}:∀ {l:List (Str×α)},(∃ p∈l,p.1=x)→∃ c,l.lookup x=some c
 | [],h=>by obtain ⟨p,hp,_⟩:=h;cases hp
 | q::r,h=>by
  obtain ⟨k,v⟩:=q
  rw [List.lookup_cons]
  by_cases e:(x == k)=true
  ·rw [e];exact ⟨v,rfl⟩
  ·obtain ⟨p,hp,h2⟩:=h
   rcases List.mem_cons.mp hp with z | z
   ·subst z;exact absurd (beq_iff_eq.mpr h2.symm) e
   ·have:=gQ (l:=r) ⟨p,z,h2⟩
    rw [show (x == k)=false by simpa using e]
    exact this
def Y9 (x y:Str):Str:=if y == x then ("":Str) else y
def Cx.blk (X:Cx) (scope:Scope) (x:Str) (C:Addr) (s:Shared) (H:Hp) (fp:List Addr):Cx where
 prog:=X.prog
 w:=X.w
 K:=X.K
 mg:=X.mg
 base:=X.base
 A:=X.A
 N:=x::X.N.map (Y9 x)
 s₀:=s
 H₀:=H
 env:=compEnvC scope (Dq scope X.env) C X.env
 outer:=X.stack
 stack:=X.stack
 ex:=fp
 fn:=fun _=>false
 calm:=X.calm
 pn:=[]
 xe:=fun _ _=>False
structure cu (X:Cx) (scope:Scope) (x:Str):Prop where
 kind:scope.kind=.function
 fn:X.env.scope.kind=.function
 own:scope.names.lookup x=some .local
 Pb:(scope.names.all fun y=>y.2 != .cell)=true
 loc:(scope.names.all fun y=>y.2 != .local || scope.names.lookup y.1 == some .local)=true
 free:(scope.names.all fun y=>y.2 != .free || X.env.scope.names.lookup y.1 == some .cell)=true
 one:(scope.names.all fun y=>y.2 != .local || y.1 == x || y.1 == (".0":Str))=true
 new:((scope.names.lookup ("":Str)).isNone && X.N.all fun y=>!(y == (".0":Str)))=true
section
variable {X:Cx} {scope:Scope} {x:Str} {C:Addr} {pins:List (Addr×Obj)} {σ:St} {H:Hp} {s:Shared} {fp:List Addr}
theorem cu.has (S:cu X scope x) (ok:X.Ok):∀ y∈scope.names,y.2=.free→∃ c,X.env.cells.lookup y.1=some c:=fun y hy hf=>by
 have h:=List.all_eq_true.mp S.free y hy
 rw [hf] at h
 have h':X.env.scope.names.lookup y.1=some .cell:=by simpa using h
 exact ok.has y.1 (.inl h')
theorem cu.cellOf (S:cu X scope x) (ok:X.Ok) {y:Str} {c:Addr} (h:(Dq scope X.env).lookup y=some c):X.env.cells.lookup y=some c :=
 Ws scope.names [] (S.has ok) (fun p hp=>by cases hp) (y,c) (PySem.mem_of_lookup h)
theorem lookup_mem {α:Type} {x:Str} {k:α} {l:List (Str×α)} (h:l.lookup x=some k):(x,k)∈l:=PySem.mem_of_lookup h
theorem rW {env:Env}:∀ {names:List (Str×NameKind)} {y:Str} {k:NameKind},(names.map fun (n,k)=>if (k == NameKind.free && env.scope.kind == .function && env.kindOf n == some .cell) then (n,NameKind.cell) else (n,k)).lookup y=some k →
  ∃ k0,names.lookup y=some k0∧(k=k0∨(k0=.free∧k=.cell))
 | [],_,_,h=>by simp at h
 | (n,k')::r,y,k,h=>by
  have ih:=@rW env r y k
  rw [List.lookup_cons]
  rw [List.map_cons] at h
  cases hx:y == n with
  | true =>
   refine ⟨k',rfl,?_⟩
   by_cases hc:(k' == NameKind.free && env.scope.kind == .function && env.kindOf n == some .cell)=true
   ·dsimp only at h
    rw [if_pos hc,List.lookup_cons,hx] at h
    simp only [Option.some.injEq] at h
    rw [Bool.and_eq_true,Bool.and_eq_true] at hc
    exact .inr ⟨beq_iff_eq.mp hc.1.1,h.symm⟩
   ·dsimp only at h
    rw [if_neg hc,List.lookup_cons,hx] at h
    simp only [Option.some.injEq] at h
    exact .inl h.symm
  | false =>
   dsimp only at h
   split at h
   ·rw [List.lookup_cons,hx] at h
    exact ih h
   ·rw [List.lookup_cons,hx] at h
    exact ih h
theorem cu.sees (S:cu X scope x) {y:Str} {k:NameKind} (h:(relabel scope X.env).names.lookup y=some k) (hk:k=.local∨k=.cell∨k=.free):(k=.local∧(y=x∨y=(".0":Str)))∨(k≠.local∧scope.names.lookup y=some .free∧X.env.scope.names.lookup y=some .cell):=by
 obtain ⟨k0,h0,e⟩:=rW (env:=X.env) h
 have hm:=lookup_mem h0
 by_cases hl:k0=.local
 ·subst hl
  have h1:=List.all_eq_true.mp S.one _ hm
  left
  refine ⟨?_,by simpa using h1⟩
  rcases e with e | ⟨e,_⟩
  ·exact e
  ·cases e
 ·right
  have hc:k0≠.cell:=fun z=>by
   have:=List.all_eq_true.mp S.Pb _ hm
   rw [z] at this
   simp at this
  have hf:k0=.free:=by
   rcases e with e | ⟨e,_⟩
   ·subst e
    rcases hk with z | z | z
    ·exact absurd z hl
    ·exact absurd z hc
    ·exact z
   ·exact e
  subst hf
  refine ⟨?_,h0,?_⟩
  ·rcases e with e | ⟨_,e⟩
   ·rw [e];decide
   ·rw [e];decide
  ·have:=List.all_eq_true.mp S.free _ hm
   simpa using this
theorem xV (S:cu X scope x) (I:Inv X pins σ H s) (hC:s.heap.objs.size≤C) (hf:∀ b∈fp,FpOk X pins H b) (hlt:∀ b∈fp,b<s.heap.objs.size):(X.blk scope x C s H fp).Ok where
 mod:=I.ok.mod
 kind:=S.kind
 glob:=I.ok.glob
 blt:=I.ok.blt
 above:=hC
 inj:=fun y z c h1 h2=>I.ok.inj y z c (S.cellOf I.ok h1) (S.cellOf I.ok h2)
 has:=fun y hy=>by
  have hy:(relabel scope X.env).names.lookup y=some .cell∨(relabel scope X.env).names.lookup y=some .free:=hy
  have q:∃ p∈Dq scope X.env,p.1=y:=by
   refine Pa scope.names [] (.inl ?_)
   have:scope.names.lookup y=some .free:=by
    rcases hy with h | h
    ·rcases S.sees h (.inr (.inl rfl)) with e | e
     ·cases e.1
     ·exact e.2.1
    ·rcases S.sees h (.inr (.inr rfl)) with e | e
     ·cases e.1
     ·exact e.2.1
   exact ⟨(y,.free),lookup_mem this,rfl,rfl⟩
  exact gQ q
 cab:=fun y c h _=>by cases h
 hd:=I.ok.hd
 frames:=I.ok.frames
 stk:=.inl rfl
 exf:=fun b hb=>⟨Nat.ne_of_lt (Nat.lt_of_lt_of_le (hlt b hb) hC),fun y c h=>(hf b hb).2.2.2.2.1 y c (S.cellOf I.ok h)⟩
 bs:=fun b o e=>I.bs b o e
 bsz:=Nat.le_trans I.ok.bsz I.sz
 noex:=fun b o e hb=>by
  rcases (hf b hb).2.2.2.1 with h | h
  ·exact I.ok.noex b o e h
  ·have:=Heap.lt_size (I.ok.bs b o e).1
   exact absurd this (Nat.not_lt.mpr h)
 exfs:=fun b hb hz=>by
  rcases List.mem_cons.mp (I.stkSub b hz) with e | e
  ·exact (hf b hb).2.1 e
  ·exact (hf b hb).2.2.1 e
 funs:=I.stack
 frf:=I.stkFree
theorem Jd (S:cu X scope x) (I:Inv X pins σ H s) {H':Hp} {h':Heap} {t':Nat} {m:Str→Option Value} (hC:s.heap.objs.size≤C) (hf:∀ b∈fp,FpOk X pins H b) (hlt:∀ b∈fp,b<s.heap.objs.size)
  (hk:∀ b u,s.heap.get? b=some u→h'.get? b=some u) (un:Un (frs X.stack) fp H H' s.heap h') (hok:HOk X.prog X.w H' h') (hm:h'.Ns C m) (hn:H' C=none) :
  Inv (X.blk scope x C s H fp) [] (none::σ) H' { s with heap:=h',toks:=t' }:=by
 have ok:=xV (C:=C) S I hC hf hlt
 refine ⟨ok,rfl,I.bare,un,⟨m,hm,fun i y v h1 h2 h3=>?_⟩,fun y c h=>?_,hn,fun y c h=>?_,fun p hp=>absurd (show p∈([]:List (Addr×Obj)) from hp) (by simp),hok,?_⟩
 ·cases i with
  | zero =>
   have h2':some (none:Option V)=some (some v):=h2
   cases h2'
  | succ i =>
   have acG:(X.N.map (Y9 x))[i]? = some y:=h1
   have h2':σ[i]? = some (some v):=h2
   have Sn:=Bool.and_eq_true_iff.mp S.new
   rw [List.getElem?_map,Option.map_eq_some_iff] at acG
   obtain ⟨z,h1',hz⟩:=acG
   have hv:∃ k,(relabel scope X.env).names.lookup y=some k∧(k=.local∨k=.cell∨k=.free):=by
    rcases h3 with h | h | h
    ·exact ⟨_,h,.inl rfl⟩
    ·exact ⟨_,h,.inr (.inl rfl)⟩
    ·exact ⟨_,h,.inr (.inr rfl)⟩
   obtain ⟨k,hk1,hk2⟩:=hv
   have nul:y≠("":Str):=fun q=>by
    subst q
    obtain ⟨k0,h0,_⟩:=rW (env:=X.env) hk1
    rw [h0] at Sn
    exact absurd Sn.1 (by simp)
   have hzy:z=y∧¬ (y=x∨y=(".0":Str)):=by
    unfold Y9 at hz
    by_cases q:(z == x)=true
    ·rw [if_pos q] at hz;exact absurd hz.symm nul
    ·rw [if_neg q] at hz
     subst hz
     refine ⟨rfl,fun w=>?_⟩
     rcases w with w | w
     ·exact q (beq_iff_eq.mpr w)
     ·have:=List.all_eq_true.mp Sn.2 z (List.mem_of_getElem? h1')
      rw [w] at this;simp at this
   obtain ⟨hzy,hyx⟩:=hzy
   rw [hzy] at h1'
   rcases S.sees hk1 hk2 with e | ⟨hkl,hfree,hcell⟩
   ·exact absurd e.2 hyx
   obtain ⟨m0,hn0,hl0⟩:=I.loc
   obtain ⟨u,ru,lk⟩:=hl0 i y v h1' h2' (.inr (.inl hcell))
   refine ⟨u,ru,?_⟩
   rcases lk with ⟨e,_⟩ | ⟨_,c,hc,abq⟩
   ·have e':X.env.scope.names.lookup y=some .local:=e
    rw [hcell] at e';cases e'
   ·obtain ⟨c',hc'⟩:=gQ (Pa (env:=X.env) scope.names [] (.inl ⟨(y,.free),lookup_mem hfree,rfl,rfl⟩))
    have:=S.cellOf I.ok hc'
    rw [hc] at this
    cases this
    refine .inr ⟨?_,c,hc',?_⟩
    ·have:(compEnvC scope (Dq scope X.env) C X.env).kindOf y=some k:=hk1
     show (compEnvC scope (Dq scope X.env) C X.env).kindOf y=some .cell∨(compEnvC scope (Dq scope X.env) C X.env).kindOf y=some .free
     rcases hk2 with z | z | z
     ·exact absurd z hkl
     ·rw [this,z];exact .inl rfl
     ·rw [this,z];exact .inr rfl
    ·obtain ⟨o,ho,r⟩:=abq
     exact ⟨o,hk _ _ ho,r⟩
 ·obtain ⟨v,o,ho,r⟩:=I.cell y c (S.cellOf I.ok h)
  exact ⟨v,o,hk _ _ ho,r⟩
 ·have hc:=S.cellOf I.ok h
  obtain ⟨v,o,ho,r⟩:=I.cell y c hc
  exact un.free c o ho (I.freeC y c hc) fun hb=>(hf c hb).2.2.2.2.1 y c hc rfl
 ·show σ.length+1=(X.N.map (Y9 x)).length+1
  rw [I.len,List.length_map]
end
section
variable {prog:Program} {w:World} {A:Around} {s:Shared} {R:Result→Shared→Prop}
theorem J2 {elt target iter:Expr} {scope:Scope} {pos:Pos} {it acc:Value} {env:Env} (I:Nat→Shared→Prop)
  (turn:∀ n s,I n s→wpAny (model prog w) A (pyNext it) (fun r s₁=>match r with
   | none=>R (.ok .next) s₁
   | some v=>wpAny (model prog w) A (letOwnedTupleGo target it v) (fun _ s₁'=>wpAny (model prog w) A (assign target env v) (fun _ s₂=>wpAny (model prog w) A (eval elt env) (fun x s₃ =>
     wpAny (model prog w) A (call (.builtin "list.append") [acc,x]) (fun _ s₄=>∃ m,m<n∧I m s₄) (fun _ _=>False) s₃)
     (fun _ _=>False) s₂) (fun _ _=>False) s₁') (fun _ _=>False) s₁) (fun _ _=>False) s)
  (n:Nat) (h:I n s):codeAny (model prog w) A (.compLoop (.ListComp elt [⟨target,iter,[],0⟩] scope pos) 0 it acc env) R s:=by
 refine codeAny_loop rfl I (fun n s hI=>?_) n h
 show wpAny _ _ ((compTurn (.ListComp elt [⟨target,iter,[],0⟩] scope pos) 0 it acc env).onRaise (fun x=>do noteFrame x env;theTreesLotGoes x)) _ _ s
 refine wpAny_noted ?_
 rw [compTurn_list1]
 refine wpAny_bind (wpAny_standAt (wpAny_bind (wpAny_mono (turn n s hI) (fun r s₁ h₁=>?_) fun _ _ h'=>h'.elim)))
 cases r with
 | none=>exact wpAny_pure h₁
 | some v =>
  refine wpAny_bind (wpAny_mono h₁ (fun _ s₁' h₁'=>?_) fun _ _ h'=>h'.elim)
  exact wpAny_bind (wpAny_mono h₁' (fun _ s₂ h₂=>wpAny_bind (wpAny_bind (wpAny_mono h₂ (fun x s₃ h₃=>wpAny_bind (wpAny_mono h₃
   (fun _ s₄ h₄=>wpAny_pure (wpAny_pure ⟨rfl,h₄⟩)) fun _ _ h'=>h'.elim)) fun _ _ h'=>h'.elim))) fun _ _ h'=>h'.elim)
end
def tLC (wi:TI) (te:TE):TE:=fun σ H Q=>wi σ H fun J H1=>∀ D,H1 D=none→∃ W:Nat→Nat→Hp→Prop,(∃ m,W 0 m (upd H1 D (.lst [])))∧∀ i m H2,W i m H2 →
 (J.stop i H2∧Q (.ref D) H2)∨(J.go i H2∧∀ x H',J.yld i H2 x H'→te (some x::σ) H' fun y H3=>∃ ys,H3 D=some (.lst ys)∧ys.length<sizeLine∧∃ m',m'<m∧W (i+1) m' (upd H3 D (.lst (ys++[y]))))
section
variable {X:Cx} {scope:Scope} {x:Str} {elt iter:Expr} {wi:TI} {te:TE} {px pos:Pos}
theorem Mi (S:cu X scope x) (hc:X.calm=true) {pins:List (Addr×Obj)} {σ:St} {H:Hp} {s:Shared} {it:Addr} {fp:List Addr} {tn:Nat→Heap→Prop} {J:It} {Q:VK} {RR:Value→Addr→Result→Shared→Prop} {E:Value→Shared→Prop}
  (he:∀ C s H fp,PE (X.blk scope x C s H fp) elt te) (hg:∀ C s H fp,PG (X.blk scope x C s H fp) (.Name x px) (gName 0))
  (I:Inv X pins σ H s) (T:Turn X.prog X.w X.K (.Name x px) J fp it tn) (st:tn 0 s.heap) (hf:∀ b∈fp,FpOk X pins H b)
  (q:∀ D,H D=none→∃ W:Nat→Nat→Hp→Prop,(∃ m,W 0 m (upd H D (.lst [])))∧∀ i m H2,W i m H2 →
   (J.stop i H2∧Q (.ref D) H2)∨(J.go i H2∧∀ x H',J.yld i H2 x H'→te (some x::σ) H' fun y H3=>∃ ys,H3 D=some (.lst ys)∧ys.length<sizeLine∧∃ m',m'<m∧W (i+1) m' (upd H3 D (.lst (ys++[y])))))
  (hRR:∀ (D C:Addr) (s':Shared) (H':Hp) (m':Str→Option Value),Q (.ref D) H'→Inv X pins σ H' s'→s'.heap.Ns C m'→H' C=none→s.heap.objs.size≤C→RR (.ref D) C (.ok .next) s') :
  wpAny (model X.prog X.w) X.A (newList []) (fun acc s₃=>wpAny (model X.prog X.w) X.A (newFunctionEnv scope X.env.globals (Dq scope X.env) [] X.env.qual none .none (some X.env)) (fun cenv s₄ =>
   codeAny (model X.prog X.w) X.A (.compStart (.ListComp elt [⟨.Name x px,iter,[],0⟩] scope pos) 0 (.ref it) acc { cenv with scope:=relabel scope X.env }) (RR acc cenv.locals) s₄) E s₃) E s:=by
 have hcell:∀ y∈scope.names,y.2≠.cell:=fun y hy z=>by
  have:=List.all_eq_true.mp S.Pb y hy
  rw [z] at this
  simp at this
 refine wpAny_newObj_type (wpAny_newFunctionEnv hcell (by intro y hy;simp at hy) (fun h₁ hns₁ hsb₁=>?_) S.kind)
 dsimp only at hns₁ hsb₁ ⊢
 generalize hH2:s.heap.push { cls:=.type "list",dict:=none,data:=.seq ([]:List Value).toArray }=G2 at hns₁ hsb₁ ⊢
 have hC:G2.objs.size=s.heap.objs.size+1:=by rw [←hH2,Heap.size_push]
 have hDC:s.heap.objs.size≠G2.objs.size:=by rw [hC];exact Nat.ne_of_lt (Nat.lt_succ_self _)
 have hCle:s.heap.objs.size≤G2.objs.size:=by rw [hC];exact Nat.le_succ _
 have below:∀ b,b<s.heap.objs.size→b≠G2.objs.size∧b≠s.heap.objs.size:=fun b hb=>⟨by rw [hC];exact Nat.ne_of_lt (Nat.lt_succ_of_lt hb),Nat.ne_of_lt hb⟩
 have old:∀ b o,s.heap.get? b=some o→h₁.get? b=some o:=fun b o e=>hsb₁.extBut b o (below b (Heap.lt_size e)).1 (Heap.get?_push_of_some _ (hH2 ▸ Heap.get?_push_of_some _ e))
 have hacc:h₁.get? s.heap.objs.size=some { cls:=.type "list",dict:=none,data:=.seq ([]:List Value).toArray }:=hsb₁.extBut _ _ hDC (Heap.get?_push_of_some _ (hH2 ▸ Heap.get?_push_size _ rfl))
 have hlt:∀ b∈fp,b<s.heap.objs.size:=fun b hb=>by
  obtain ⟨o,ho,_⟩:=T.obj 0 _ st b hb
  exact Heap.lt_size ho
 have hD:H s.heap.objs.size=none:=I.hok.fresh (Nat.le_refl _)
 have hCn:upd H s.heap.objs.size (.lst []) G2.objs.size=none:=by rw [upd_ne (Ne.symm hDC)];exact I.hok.fresh hCle
 have I4:Inv (X.blk scope x G2.objs.size s H fp) [] (none::σ) (upd H s.heap.objs.size (.lst [])) { s with heap:=h₁,toks:=s.toks+([]:List (Str×Value)).length } :=
  Jd S I hCle hf hlt old (Un.laid old (Nat.le_refl _) hD) (I.hok.laid old (Nat.le_refl _) ⟨Nat.zero_le _,[],0,.nil,hacc⟩) hns₁ hCn
 obtain ⟨W,⟨m0,w0⟩,turn⟩:=q s.heap.objs.size hD
 have loop:codeAny (model X.prog X.w) X.A (.compLoop (.ListComp elt [⟨.Name x px,iter,[],0⟩] scope pos) 0 (.ref it) (.ref s.heap.objs.size) (compEnvC scope (Dq scope X.env) G2.objs.size X.env))
   (RR (.ref s.heap.objs.size) G2.objs.size) { s with heap:=h₁,toks:=s.toks+([]:List (Str×Value)).length }:=by
  have fb:∀ {H':Hp},(∀ b∈fp,H' b=none)→∀ b∈fp,FpOk (X.blk scope x G2.objs.size s H fp) [] H' b:=fun hn b hb=>by
   refine ⟨hn b hb,((xV (C:=G2.objs.size) S I hCle hf hlt).exf b hb).1,fun hz=>?_,.inl hb,((xV (C:=G2.objs.size) S I hCle hf hlt).exf b hb).2 ,fun p hp=>absurd (show p∈([]:List (Addr×Obj)) from hp) (by simp)⟩
   exact (xV (C:=G2.objs.size) S I hCle hf hlt).exfs b hb hz
  refine J2 (fun n s'=>∃ i o H',Inv (X.blk scope x G2.objs.size s H fp) [] (o::σ) H' s'∧tn i s'.heap∧(∀ b∈fp,H' b=none)∧W i n H') ?_ m0
   ⟨0,none,_,I4,T.keep 0 _ _ st fun b hb o e=>old b o e,fun b hb=>?_,w0⟩
  ·rintro n s3 ⟨i,o,H3,I3,st3,fr3,w3⟩
   rcases turn i n H3 w3 with ⟨stop,qn⟩ | ⟨go,step⟩
   ·refine thn (T.done (X.blk scope x G2.objs.size s H fp) rfl rfl rfl hc i [] s3 (o::σ) H3 (fun _ _=>False) I3 (fb fr3) st3 stop) fun r s4 ⟨hr,Ug⟩=>?_
    subst hr
    obtain ⟨m',hm',_⟩:=Ug.loc
    refine hRR _ _ s4 H3 m' qn (I.call' (ch:=fp) Ug.os Ug.base Ug.hok Ug.bare fun b hb=>?_) hm' Ug.free hCle
    obtain ⟨_,f1,f2,f3,f4,f5⟩:=hf b hb
    exact ⟨f3,f1,f4,f5⟩
   ·refine thn (T.item (X.blk scope x G2.objs.size s H fp) rfl rfl rfl hc i [] s3 (o::σ) H3 (fun _ _=>False) I3 (fb fr3) st3 go) fun r s4 ⟨u,hr,h4⟩=>?_
    subst hr
    refine thn h4 fun _ s5 ⟨xv,H5,I5,r5,y5,st5,fr5⟩=>?_
    have I5':=I5.pinned (fb fr5) (T.obj _ _ st5)
    refine thn (hg _ _ _ _ _ s5 (o::σ) H5 xv u (fun σ' H'=>σ' = some xv::σ∧H' = H5) I5' r5 ⟨rfl,rfl⟩) fun _ s6 ⟨σ6,H6,I6,e6,e6'⟩=>?_
    subst e6 e6'
    refine thn (he _ _ _ _ _ s6 _ _ _ I6 (step xv _ y5)) fun y s7 ⟨yv,H7,I7,r7,ys,hy,hz,m',hm,w7⟩=>?_
    refine thn (bN _ s7 _ H7 (.ref s.heap.objs.size) [yv] _ [y] (fun _ H'=>H' = upd H7 s.heap.objs.size (.lst (ys++[yv]))) I7 rfl (.cons r7 .nil) ⟨_,ys,yv,rfl,rfl,hy,hz,rfl⟩) fun _ s8 ⟨_,H8,I8,_,e8⟩=>?_
    subst e8
    refine ⟨m',hm,i+1,_,_,I8.unpinned,T.keep _ _ _ st5 fun b hb ob e=>(I8.pin (b,ob) (List.mem_append_right _ (List.mem_append_right _ (mem_pinsAt hb e)))).1,fun b hb=>?_,w7⟩
    obtain ⟨ob,e,_⟩:=T.obj _ _ st5 b hb
    exact (I8.pin (b,ob) (List.mem_append_right _ (List.mem_append_right _ (mem_pinsAt hb e)))).2.1
  ·rw [upd_ne (below b (hlt b hb)).2]
   exact (hf b hb).1
 refine codeAny_compStart_list loop ?_
 exact T.self _ 0 _ _ _ (T.keep 0 _ _ st fun b hb o e=>old b o e) loop
theorem acH (S:cu X scope x) (hc:X.calm=true) (hi:PI X (.Name x px) iter wi) (he:∀ C s H fp,PE (X.blk scope x C s H fp) elt te) (hg:∀ C s H fp,PG (X.blk scope x C s H fp) (.Name x px) (gName 0))
  (hs:∀ x,foldedSetIterable iter X.env x=pure x:=by intro _;rfl):PE X (.ListComp elt [⟨.Name x px,iter,[],0⟩] scope pos) (tLC wi te):=by
 intro pins s σ H Q I h
 have hnames:∀ y∈scope.names,y.2=.local→scope.names.lookup y.1=some .local:=fun y hy hl=>by
  have:=List.all_eq_true.mp S.loc y hy
  rw [hl] at this
  simpa using this
 rw [eval_ListComp]
 refine wpAny_comprehension_free (use:=none) rfl hs (xU (S.has I.ok)) S.kind hnames (thn (hi pins s σ H _ I h) fun v s1 h1=>thn h1 fun itv s2 h2=>?_)
 obtain ⟨it,fp,tn,J,H2,rfl,I2,T,st2,f2,q2⟩:=h2
 refine Mi S hc (RR:=fun acc C=>compPost (model X.prog X.w) X.A X.xe none (EP X pins σ Q) acc C) he hg I2 T st2 f2 q2 fun D C s' H' m' qD I' hm hn hC=>⟨m',hm,fun h' hs'=>?_⟩
 have neL:C≠X.env.locals:=Nat.ne_of_gt (Nat.lt_of_lt_of_le I2.lt hC)
 refine ⟨.ref D,H',I'.turned (it:=C) (t':=s'.toks) (fun b o hb e=>hs'.extBut b o hb e) hn neL (.inr (Nat.le_trans I2.sz hC)) (fun y c e z=>?_) (fun p hp z=>?_),rfl,qD⟩
 ·obtain ⟨_,o,ho,_⟩:=I2.cell y c e
  exact absurd (Heap.lt_size ho) (by rw [z];exact Nat.not_lt.mpr hC)
 ·exact absurd (Heap.lt_size (I2.pin p hp).1) (by rw [z];exact Nat.not_lt.mpr hC)
end
end L2
namespace L2
open PySem PySem.Spec PyProof.Rows
section
variable {X:Cx}
def aar (K:PySem.W.Frag):List V→Hp→VK→Prop:=fun xs H Q=>∃ (p:Addr) (ns:List Int),xs=[.ref p]∧SqL K H p (ns.map V.int)∧Q (.int ns.sum) H
theorem Mj (K:PySem.W.Frag) (p:Addr) (H:Hp) (Q:VK):aar K [.ref p] H Q=∃ ns:List Int,SqL K H p (ns.map V.int)∧Q (.int ns.sum) H:=by
 refine propext ⟨fun ⟨_,ns,e,h⟩=>?_,fun ⟨ns,h⟩=>⟨p,ns,rfl,h⟩⟩
 cases e;exact ⟨ns,h⟩
theorem Uh (hc:X.calm=true):CallR X (.builtin "sum") (aar X.K):=by
 intro pins s σ H xs us Q I r h
 obtain ⟨p,ns,rfl,hq,q⟩:=h
 obtain ⟨u,rfl,rx⟩:=vals1 r
 cases rx
 obtain ⟨its,rv,pl,hz⟩:=I.list hq
 have hi:IntsAre its ns:=intsAre_of rv
 obtain ⟨ys,e⟩:=hi.allInts.items
 have hns:ns=ys.toList.map (·.1):=by rw [←hi.numsOf,←nums_intItems,←e]
 have hl:=pl.isList
 rw [e] at hl
 refine sum_intListG (I.ok.hd hc) hl fun h' tk t' hk=>⟨.int ns.sum,H,I.kept hk,⟨t',?_⟩,q⟩
 rw [preSum_eq,List.take_of_length_le (by simp),←hns]
def aas (K:PySem.W.Frag):List V→Hp→VK→Prop:=fun xs H Q=>∃ (p:Addr) (ns:List Int),xs=[.ref p]∧SqL K H p (ns.map V.int)∧ns≠[]∧∀ M,M∈ns→(∀ a,a∈ns→M≤a)→Q (.int M) H
theorem Ml (K:PySem.W.Frag) (p:Addr) (H:Hp) (Q:VK):aas K [.ref p] H Q=∃ ns:List Int,SqL K H p (ns.map V.int)∧ns≠[]∧∀ M,M∈ns→(∀ a,a∈ns→M≤a)→Q (.int M) H:=by
 refine propext ⟨fun ⟨_,ns,e,h⟩=>?_,fun ⟨ns,h⟩=>⟨p,ns,rfl,h⟩⟩
 cases e;exact ⟨ns,h⟩
theorem Av (hc:X.calm=true):CallR X (.builtin "min") (aas X.K):=by
 intro pins s σ H xs us Q I r h
 obtain ⟨p,ns,rfl,hq,hne,q⟩:=h
 obtain ⟨u,rfl,rx⟩:=vals1 r
 cases rx
 obtain ⟨its,rv,pl,hz⟩:=I.list hq
 have hi:IntsAre its ns:=intsAre_of rv
 obtain ⟨ys,e⟩:=hi.allInts.items
 have hns:ns=ys.toList.map (·.1):=by rw [←hi.numsOf,←nums_intItems,←e]
 have hsz:0<ys.size:=by
  have h3:=List.length_pos_iff.mpr hne
  rw [hns,List.length_map,Array.length_toList] at h3
  exact h3
 have hl:=pl.isList
 rw [e] at hl
 refine min_intList (I.ok.hd hc) hl hsz fun v h' tk hv hk=>?_
 obtain ⟨t,rfl⟩:=intItems_at hv
 obtain ⟨h1,h2⟩:=argBest_lt (numAt ys) (ys.size - 1)
 refine ⟨.int _,H,I.kept hk,⟨t,rfl⟩,q _ ?_ fun a ha=>?_⟩
 ·rw [hns,numAt_eq];exact getD_mem (by rw [List.length_map,Array.length_toList];omega)
 ·rw [hns] at ha
  obtain ⟨j,hj,rfl⟩:=mem_getD ha
  rw [List.length_map,Array.length_toList] at hj
  rw [←numAt_eq];exact h2 j (by omega)
def Wt:V→List V→Hp→VK→Prop:=fun x vs H Q=>∃ (l:Addr) (ns:List Int) (i:Int) (j:Nat),x=.ref l∧vs=[.int i]∧H l=some (.lst (ns.map V.int))∧ns[j]? = some i∧(∀ m,m<j→ns[m]? ≠ some i)∧Q (.int (j:Nat)) H
theorem Je (l:Addr) (i:Int) (H:Hp) (Q:VK):Wt (.ref l) [.int i] H Q=∃ ns:List Int,H l=some (.lst (ns.map V.int))∧∃ j:Nat,ns[j]? = some i∧(∀ m,m<j→ns[m]? ≠ some i)∧Q (.int (j:Nat)) H:=by
 refine propext ⟨fun ⟨_,ns,_,j,e1,e2,h,h'⟩=>?_,fun ⟨ns,h,j,h'⟩=>⟨l,ns,i,j,rfl,rfl,h,h'⟩⟩
 cases e1;cases e2;exact ⟨ns,h,j,h'⟩
theorem Mp:MtM X "list.index" Wt:=by
 intro pins s σ H x vs v us Q I rx rv h
 obtain ⟨l,ns,i,j,rfl,rfl,hH,hj,hno,q⟩:=h
 cases rx
 obtain ⟨u,rfl,ru⟩:=rv.one
 obtain ⟨z,its,n,r,hl,e⟩:=I.lstM hH
 have hjl:j<ns.length:=(List.getElem?_eq_some_iff.mp hj).1
 have hlen:its.length=ns.length:=by rw [←hl,List.length_map]
 have h63:=line63
 rw [List.length_map] at z
 have at_:∀ (m:Nat) (hm:m<its.toArray.size),∃ y:Int,ns[m]? = some y∧Vw (.int i) its.toArray[m]=Q6 (.int y) (.int i):=fun m hm=>by
  have hm':m<ns.length:=by simpa [hlen] using hm
  refine ⟨ns[m],List.getElem?_eq_getElem hm',?_⟩
  obtain ⟨w',hw,rw'⟩:=r.get (i:=m) (x:=.int ns[m]) (by rw [List.getElem?_map,List.getElem?_eq_getElem hm'];rfl)
  have e2:its.toArray[m]=w':=by
   have:its[m]? = some (its[m]'(by omega)):=List.getElem?_eq_getElem (by omega)
   rw [this] at hw
   simpa using hw
  rw [e2]
  exact O6 rw' rfl
 refine call_meets F.slot_list_index ⟨_,e,rfl⟩ F.entry_list_index (F.args_list_index_2 _ _) (SeqAt.list_indexAt l its.toArray n none #[] u (Vw (.int i)) j (by simpa [hlen] using hjl) (by omega) ?_ ?_) ⟨e,?_,?_⟩
 ·obtain ⟨y,hy,e2⟩:=at_ j (by simpa [hlen] using hjl)
  rw [hj] at hy;cases hy
  rw [e2];simp [Q6]
 ·intro m hm hmj
  obtain ⟨y,hy,e2⟩:=at_ m hm
  rw [e2]
  have:=hno m hmj
  rw [hy] at this
  simp [Q6]
  intro z;exact this (by rw [z])
 ·intro y hy
  have hall:(ns.map V.int).all u5=true:=by simp [u5]
  exact yL ru rfl r hall y (by simpa using hy)
 ·exact ⟨.int (j:Nat),H,I.tok _,⟨_,rfl⟩,q⟩
end
def Wu (K:PySem.W.Frag) (a:Addr) (te:TE) (σ:St) (H1:Hp) (Q:VK):Prop :=
 ((∃ xs,SqL K H1 a xs)∧∀ D,H1 D=none→∃ W:Nat→Nat→Hp→Prop,(∃ m,W 0 m (upd H1 D (.lst [])))∧∀ i m H2,W i m H2 →
  ((Itl K a).stop i H2∧Q (.ref D) H2)∨((Itl K a).go i H2∧∀ x H',(Itl K a).yld i H2 x H'→te (some x::σ) H' fun y H3=>∃ ys,H3 D=some (.lst ys)∧ys.length<sizeLine∧∃ m',m'<m∧W (i+1) m' (upd H3 D (.lst (ys++[y]))))) ∨
 ((∃ xs,SqT K H1 a xs)∧∀ D,H1 D=none→∃ W:Nat→Nat→Hp→Prop,(∃ m,W 0 m (upd H1 D (.lst [])))∧∀ i m H2,W i m H2 →
  ((Iv K a).stop i H2∧Q (.ref D) H2)∨((Iv K a).go i H2∧∀ x H',(Iv K a).yld i H2 x H'→te (some x::σ) H' fun y H3=>∃ ys,H3 D=some (.lst ys)∧ys.length<sizeLine∧∃ m',m'<m∧W (i+1) m' (upd H3 D (.lst (ys++[y])))))
theorem Wv (K:PySem.W.Frag) (tl te:TE) (σ:St) (H:Hp) (Q:VK):tLC (iSq K tl) te σ H Q=tl σ H fun x H1=>Ja x fun a=>Wu K a te σ H1 Q:=rfl
theorem Wu.go {K:PySem.W.Frag} {a:Addr} {te:TE} {σ:St} {H:Hp} {Q:VK} {xs:List V} (hS:bQ K H a xs) (hlen:xs.length<sizeLine) (Pv:Nat→List V→Hp→Prop) (h0:∀ H2,Same H H2→Pv 0 [] H2)
  (hst:∀ i ys H2 H3 D,H D=none→Pv i ys H2→(∀ b o,b≠D→H2 b=some o→H3 b=some o)→Pv i ys H3)
  (hs:∀ (i:Nat) (x:V) (ys:List V) (H2:Hp) (R:VK),xs[i]? = some x→ys.length=i→Pv i ys H2→Same H H2→(∀ y H3,Same H2 H3→Pv (i+1) (ys++[y]) H3→R y H3)→te (some x::σ) H2 R)
  (hd:∀ D ys H2,H D=none→H2 D=some (.lst ys)→ys.length=xs.length→Pv xs.length ys H2→Same H H2→Q (.ref D) H2):Wu K a te σ H Q:=by
 have W:∀ (D:Addr),H D=none→∀ (J:It),(∀ i H2,Same H H2→xs.length≤i→J.stop i H2)→(∀ i x H2,Same H H2→xs[i]? = some x→J.go i H2)→(∀ i H2 x H',Same H H2→J.yld i H2 x H'→H' = H2∧xs[i]? = some x) →
   ∃ W:Nat→Nat→Hp→Prop,(∃ m,W 0 m (upd H D (.lst [])))∧∀ i m H2,W i m H2 →
    (J.stop i H2∧Q (.ref D) H2)∨(J.go i H2∧∀ x H',J.yld i H2 x H'→te (some x::σ) H' fun y H3=>∃ ys,H3 D=some (.lst ys)∧ys.length<sizeLine∧∃ m',m'<m∧W (i+1) m' (upd H3 D (.lst (ys++[y])))):=by
  intro D hD J j1 j2 j3
  refine ⟨fun i m H2=>m=xs.length - i∧i≤xs.length∧∃ ys,ys.length=i∧H2 D=some (.lst ys)∧Pv i ys H2∧Same H H2,⟨xs.length,by simp,Nat.zero_le _,[],rfl,upd_same,h0 _ (Same.new hD),Same.new hD⟩,?_⟩
  rintro i m H2 ⟨rfl,hi,ys,hys,hD2,hP,hsm⟩
  by_cases hlt:i<xs.length
  ·refine .inr ⟨j2 i xs[i] H2 hsm (by simp [hlt]),fun x H' hy=>?_⟩
   obtain ⟨rfl,hx⟩:=j3 i H2 x H' hsm hy
   refine hs i x ys _ _ hx hys hP hsm fun y H3 h3 hP3=>⟨ys,h3 _ _ hD2,by omega,xs.length - (i+1),by omega,rfl,hlt,ys++[y],by simp [hys],upd_same,hst _ _ H3 _ D hD hP3 fun b o hb e=>by rw [upd_ne hb];exact e,fun b o e=>?_⟩
   rw [upd_ne (ne_of_none e hD)]
   exact h3 _ _ (hsm _ _ e)
  ·have e:i=xs.length:=by omega
   subst e
   exact .inl ⟨j1 _ _ hsm (Nat.le_refl _),hd D ys H2 hD hD2 hys hP hsm⟩
 rcases hS with h | h
 ·refine .inl ⟨⟨xs,h⟩,fun D hD=>W D hD (Itl K a) (fun i H2 hs hi=>⟨xs,hs.seq h,hi⟩) (fun i x H2 hs hx=>⟨xs,x,hs.seq h,hx⟩) fun i H2 x H' hs hy=>⟨hy.1,hy.2 xs (hs.seq h)⟩⟩
 ·refine .inr ⟨⟨xs,h⟩,fun D hD=>W D hD (Iv K a) (fun i H2 hs hi=>⟨xs,hs.Ar h,hi⟩) (fun i x H2 hs hx=>⟨xs,x,hs.Ar h,hx⟩) fun i H2 x H' hs hy=>⟨hy.1,hy.2 xs (hs.Ar h)⟩⟩
theorem Wu.map {K:PySem.W.Frag} {a:Addr} {te:TE} {σ:St} {H:Hp} {Q:VK} {xs:List V} (hS:bQ K H a xs) (hlen:xs.length<sizeLine) (f:V→V)
  (hs:∀ (i:Nat) (x:V) (H2:Hp) (R:VK),xs[i]? = some x→Same H H2→(∀ H3,Same H2 H3→R (f x) H3)→te (some x::σ) H2 R)
  (hd:∀ D H2,H D=none→H2 D=some (.lst (xs.map f))→Same H H2→Q (.ref D) H2):Wu K a te σ H Q:=by
 refine Wu.go hS hlen (fun i ys _=>ys=(xs.take i).map f) (fun _ _=>by simp) (fun i ys H2 H3 D _ h _=>h) (fun i x ys H2 R hx _ hp hsm hR=>hs i x H2 R hx hsm fun H3 h3=>hR _ _ h3 ?_) fun D ys H2 hD hD2 _ hp hsm=>hd D H2 hD (by rw [hD2,hp,List.take_of_length_le (Nat.le_refl _)]) hsm
 obtain ⟨hlt,e⟩:=List.getElem?_eq_some_iff.mp hx
 rw [hp,List.take_add_one,hx]
 simp
section
variable {X:Cx} {K:PySem.W.Frag}
theorem J3 (h:X.K=K):IxR X (abl K):=by subst h;exact cD
theorem abt {o e:Expr} {es:List Expr} {name:Str} {T id:String} {r:V→List V→Hp→VK→Prop} {to:TE} {t:TA} {apos cpos:Pos} (hK:X.K=K) (pa:PlainAttrs T) (slot:Slot T name id) (hty:typeOf (.builtin id)=pure (.type "method_descriptor")) (hm:MtR X id r) (ho:PE X o to) (ha:PA X (e::es) t)
  (hbase:attributeBase o name X.env (eval o X.env)=eval o X.env:=by rfl)
  (hfew:((backTo cpos (starEach (e::es) X.env)).all (fun x=>!x.1) && (backToKw cpos (keywordEach [] X.env)).all (fun x=>x.1.isSome)
   && decide ((e::es).length+([]:List Keyword).length+(if ([]:List Keyword).isEmpty then 0 else 1)<30))=true:=by rfl)
  (hline:(apos.endLine == cpos.line)=true:=by rfl) (hs:starEach (e::es) X.env=(false,eval e X.env)::starEach es X.env:=by rfl) (hplain:(backTo cpos (starEach es X.env)).any (·.1)=false:=by rfl) :
  PE X (.Call (.Attribute o name apos) (e::es) [] cpos) (tBM K T r to t):=by
 subst hK
 exact acv pa slot hty hm ho ha hbase hfew hline hs hplain
end
end L2
namespace L2
open PySem PySem.Spec PyProof.Rows
def RQ (vs:List Int):TA:=fun _ H Q=>Q (vs.map V.int) H
def qM:List Expr→Option (List Int)
 | []=>some []
 | .Constant (.int i) _ _::r=>(qM r).map fun l=>i::l
 | _=>none
theorem RT (vs:List Int) (σ:St) (H:Hp) (Q:List V→Hp→Prop):RQ vs σ H Q=Q (vs.map V.int) H:=rfl
theorem RV {X:Cx}:∀ {es:List Expr} {vs:List Int},qM es=some vs→PA X es (RQ vs)
 | [],vs,h=>by
  cases h
  exact pa_nil
 | e::r,vs,h=>by
  unfold qM at h
  split at h
  ·rename_i e0;cases e0
  ·rename_i i j pos r' e0
   cases e0
   cases hr:qM r with
   | none=>rw [hr] at h;cases h
   | some l =>
    rw [hr] at h
    cases h
    have ih:PA X r (RQ l):=RV hr
    exact pa_cons pe_int ih
  ·cases h
end L2
namespace L2
open PySem PySem.Spec PyProof.Rows
theorem aN.acJ {P:Program} {w:World} {K:PySem.W.Frag} {mg:Str→Option Value} {base:Heap} {x:Str} {st:Stmt} {N ps:List Str} {k:Nat} {sp:Sp} {sc:Scope} {bd:List Stmt} (hsc:defScope st=sc) (hbd:defBody st=bd) (F:aN K mg x st ps) (S:FnScope N ps sc) (len:∀ vs H Q E,sp vs H Q E→vs.length=ps.length)
  (hbody:∀ (f:Addr) (cdv:Value) (A:Around) (outer:List Env) (s:Shared) (H:Hp) (vs:List V) (Q:VK) (E:XK),Room k (A.deeper (envOfC x sc s.heap.objs.size f cdv))→sp vs H Q E →
   ∃ t,PSs (cxOf CX0 P w K mg base N x sc f cdv A outer s H E).nox bd t∧t { nx:=fun _ H'=>Q .non H',rt:=Q } (L2.start N vs) H):Good P w K mg base CX0 (k+1) x ps sp:=by
 subst hsc hbd
 exact F.good S len hbody
theorem Fun.okL {P:Program} {w:World} {K:PySem.W.Frag} {mg:Str→Option Value} {base:Heap} {x qual:Str} {st:Stmt} {f:Addr} {fd:FuncData} {N ps:List Str} {k:Nat} {sp:Sp} {sc:Scope} {bd:List Stmt} (hsc:defScope st=sc) (hbd:defBody st=bd) (F:Fun K x qual st f fd) (S:FnScope N ps sc) (len:∀ vs H Q E,sp vs H Q E→vs.length=ps.length)
  (hbody:∀ (cdv:Value) (A:Around) (outer:List Env) (s:Shared) (H:Hp) (vs:List V) (Q:VK) (E:XK),Room k (A.deeper (envOfC qual sc s.heap.objs.size f cdv))→sp vs H Q E →
   ∃ t,PSs (cxOf CX0 P w K mg base N qual sc f cdv A outer s H E).nox bd t∧t { nx:=fun _ H'=>Q .non H',rt:=Q } (L2.start N vs) H):FnOk P w K mg base CX0 (k+1) f fd ps sp:=by
 subst hsc hbd
 exact F.ok S len hbody
end L2
namespace L2
open PySem PySem.Spec PyProof.Rows
structure QE (X:Cx) (e:Expr) (t:TE):Prop where h:PE X e t
structure QT (X:Cx) (e:Expr) (t:TT):Prop where h:PT X e t
structure QW (X:Cx) (e:Expr) (t:TT):Prop where h:PW X e t
structure QA (X:Cx) (es:List Expr) (t:TA):Prop where h:PA X es t
structure QS (X:Cx) (st:Stmt) (t:TS):Prop where h:PS X st t
structure QB (X:Cx) (st:List Stmt) (t:TS):Prop where h:PSs X st t
structure QI (X:Cx) (tg iter:Expr) (t:TI):Prop where h:PI X tg iter t
structure QG (X:Cx) (tg:Expr) (t:TG):Prop where h:PG X tg t
structure QO (X:Cx) (e:Option Expr) (t:TO):Prop where h:PO X e t
section
variable {X:Cx} {K:PySem.W.Frag} {a b c e o i l:Expr} {es:List Expr} {ta tb tc te to ti tl td ty tv:TE} {t:TA} {tA tB':TT} {pos p apos cpos pos' px:Pos} {x:Str} {rest body els:List Stmt} {st:Stmt} {tS uS:TS} {tg iter value:Expr} {wi:TI} {g:TG}
theorem aB {i j pos}:QE X (.Constant (.int i) j pos) (tC (.int i)):=⟨pe_int⟩
theorem dw {b j pos}:QE X (.Constant (.bool b) j pos) (tC (.bl b)):=⟨pe_bl⟩
theorem iH {j pos}:QE X (.Constant .none j pos) (tC .non):=⟨aaN⟩
theorem gR {x j pos}:QE X (.Constant (.str x) j pos) (tC (.str x)):=⟨aaO⟩
theorem qv (i:Nat) {x:Str} {pos:Pos} (hN:X.N[i]? = some x:=by rfl) (hv:Vis X.env.scope x:=by first | exact Or.inl rfl | exact Or.inr (Or.inl rfl) | exact Or.inr (Or.inr rfl)) (hd:(x == ("__debug__":Str))=false:=by decide)
  (hcd:(x == ("__classdict__":Str))=false:=by decide):QE X (.Name x pos) (tVar i):=⟨pe_var hN hv hd hcd⟩
theorem bF {n:String} (hm:X.mg x=none) (hv:bootBuiltins x=some (.type n)) (hg:Gl X x:=by rfl) (hn:x ≠ "__name__":=by decide) (hd:(x == ("__debug__":Str))=false:=by decide):QE X (.Name x pos) (tC (.ty n)):=⟨acA hm hv hg hn hd⟩
theorem qN {i:Int} (h:GI X.mg x i) (hg:Gl X x:=by rfl) (hd:(x == ("__debug__":Str))=false:=by decide):QE X (.Name x pos) (tC (.int i)):=⟨acB h hg hd⟩
theorem bf {op:Operator} {r:R2} (ho:OpR X (binaryOp op) r) (ha:QE X a ta) (hb:QE X b tb):QE X (.BinOp a op b pos) (tOp r ta tb):=⟨pe_op ho ha.h hb.h⟩
theorem Ww {op:UnaryOp} {r:V→Hp→VK→Prop} (ho:UnR X (unaryOp op) r) (ha:QE X a ta):QE X (.UnaryOp op a pos) (tUn r ta):=⟨acr ho ha.h⟩
theorem abu (ha:QE X a ta):QE X (.UnaryOp .Not a pos) (Vg ta):=⟨aaV ha.h⟩
theorem m9 {op} (ha:QE X a ta):QE X (.BoolOp op [a] pos) ta:=⟨aaT ha.h⟩
theorem eU (ha:QE X a ta) (hb:QE X (.BoolOp .And (b::es) pos) tb):QE X (.BoolOp .And (a::b::es) pos) (Vf ta tb):=⟨aaU ha.h hb.h⟩
theorem Mq (hc:QT X c tA) (ha:QE X a ta) (hb:QE X b tb):QE X (.IfExp c a b pos) (tIf tA ta tb):=⟨Vh hc.h ha.h hb.h⟩
theorem eV (h:QA X es t):QE X (.List es pos) (tLst t):=⟨pe_lst h.h⟩
theorem rY {x1} (h:QA X es t):QE X (.Tuple es x1 pos) (aa4 t):=⟨aa5 h.h⟩
theorem nj:QE X (.Dict [] [] pos) tDNewK:=⟨pe_dnewK⟩
theorem oY:QO X none JT:=⟨YW⟩
theorem jT (h:QE X e te):QO X (some e) (Vu te):=⟨YX h.h⟩
theorem iI {r:V→Option Int→Option Int→Hp→VK→Prop} {lo hi:Option Expr} {tlo thi:TO} {p2:Pos} (hr:SlR X r) (he:QE X e te) (hl:QO X lo tlo) (hu:QO X hi thi):QE X (.Subscript e (.Slice lo hi none p2) pos) (tSl r te tlo thi):=⟨Vv hr he.h hl.h hu.h⟩
theorem wB (hu:X.A.units+1<cLine) (ho:QE X o td) (hi:QE X i ty) (hs:abh i):QE X (.Subscript o i pos) (Q7 td ty):=⟨Y5 hu ho.h hi.h hs⟩
theorem bY {r:R2} (hr:IxR X r) (ha:QE X a ta) (hb:QE X b tb) (hs:PlainIx b):QE X (.Subscript a b pos) (tOp r ta tb):=⟨pe_ix hr ha.h hb.h hs⟩
theorem au {CX:CXT} {k:Nat} {ps:List Str} {sp:Sp} {E:XK} (g:Good X.prog X.w X.K X.mg X.base CX k x ps sp) (hr:Room k X.A) (hx:Passes CX X E)
  (ha:QA X (e::es) t) (hg:Gl X x:=by rfl) (hdb:(x == ("__debug__":Str))=false:=by decide) (he:starEach (e::es) X.env=(false,eval e X.env)::starEach es X.env:=by rfl) (hpl:(backTo pos (starEach es X.env)).any (·.1)=false:=by rfl) :
  QE X (.Call (.Name x p) (e::es) [] pos) (tCall sp [] E t):=⟨VJ g hr hx ha.h hg hdb he hpl⟩
theorem aA {id:String} {r:List V→Hp→VK→Prop} (hc:CallR X (.builtin id) r) (hg:Gl X x) (hm:X.mg x=none) (hv:bootBuiltins x=some (.builtin id)) (ha:QA X (e::es) t) (hn:x ≠ "__name__":=by decide) (hdb:(x == ("__debug__":Str))=false:=by decide)
  (he:starEach (e::es) X.env=(false,eval e X.env)::starEach es X.env:=by rfl) (hpl:(backTo pos (starEach es X.env)).any (·.1)=false:=by rfl):QE X (.Call (.Name x p) (e::es) [] pos) (tCB r t):=⟨pe_callB hc hg hm hv ha.h hn hdb he hpl⟩
theorem cV {T:String} {r:List V→Hp→VK→Prop} (hc:CallR X (.type T) r) (hg:Gl X x) (hm:X.mg x=none) (hv:bootBuiltins x=some (.type T)) (ha:QA X (e::es) t) (hn:x ≠ "__name__":=by decide) (hdb:(x == ("__debug__":Str))=false:=by decide)
  (he:starEach (e::es) X.env=(false,eval e X.env)::starEach es X.env:=by rfl) (hpl:(backTo pos (starEach es X.env)).any (·.1)=false:=by rfl):QE X (.Call (.Name x p) (e::es) [] pos) (tCB r t):=⟨Uc hc hg hm hv ha.h hn hdb he hpl⟩
theorem iJ {name:Str} {T id:String} {r:V→List V→Hp→VK→Prop} (hK:X.K=K) (pa:PlainAttrs T) (slot:Slot T name id) (hty:typeOf (.builtin id)=pure (.type "method_descriptor")) (hm:MtR X id r) (ho:QE X o to) (ha:QA X (e::es) t)
  (hbase:attributeBase o name X.env (eval o X.env)=eval o X.env:=by rfl)
  (hfew:((backTo cpos (starEach (e::es) X.env)).all (fun x=>!x.1) && (backToKw cpos (keywordEach [] X.env)).all (fun x=>x.1.isSome)
   && decide ((e::es).length+([]:List Keyword).length+(if ([]:List Keyword).isEmpty then 0 else 1)<30))=true:=by rfl)
  (hline:(apos.endLine == cpos.line)=true:=by rfl) (hs:starEach (e::es) X.env=(false,eval e X.env)::starEach es X.env:=by rfl) (hplain:(backTo cpos (starEach es X.env)).any (·.1)=false:=by rfl) :
  QE X (.Call (.Attribute o name apos) (e::es) [] cpos) (tBM K T r to t):=⟨abt hK pa slot hty hm ho.h ha.h hbase hfew hline hs hplain⟩
theorem Wx {name:Str} {T id:String} {r:V→List V→Hp→VK→Prop} (hK:X.K=K) (pa:PlainAttrs T) (slot:Slot T name id) (hty:typeOf (.builtin id)=pure (.type "method_descriptor")) (hm:MtR X id r) (ho:QE X o to)
  (hbase:attributeBase o name X.env (eval o X.env)=eval o X.env:=by rfl) (hline:(apos.endLine == cpos.line)=true:=by rfl):QE X (.Call (.Attribute o name apos) [] [] cpos) (abd K T r to):=by
 subst hK
 exact ⟨abf pa slot hty hm ho.h hbase hline⟩
theorem fM {op:CmpOp} {r:R2} (ho:OpR X (compareOp op) r) (ha:QE X a ta) (hb:QE X b tb) (hm:behindInMarks op b=false):QE X (.Compare a [op] [b] pos) (tOp r ta tb):=⟨pe_cmpR ho ha.h hb.h hm⟩
theorem CQ {scope:Scope} (S:cu X scope x) (hc:X.calm=true) (hi:QI X (.Name x px) iter wi) (he:∀ C s H fp,QE (X.blk scope x C s H fp) e te) (hg:∀ C s H fp,QG (X.blk scope x C s H fp) (.Name x px) (gName 0))
  (hs:∀ x,foldedSetIterable iter X.env x=pure x:=by intro _;rfl):QE X (.ListComp e [⟨.Name x px,iter,[],0⟩] scope pos) (tLC wi te):=⟨acH S hc hi.h (fun C s H fp=>(he C s H fp).h) (fun C s H fp=>(hg C s H fp).h) hs⟩
theorem aK {op:CmpOp} {r:R2} (ho:OpR X (compareOp op) r) (ha:QE X a ta) (hb:QE X b tb) (hm:behindInMarks op b=false):QT X (.Compare a [op] [b] pos) (tTest (tOp r ta tb)):=⟨pt_cmpR ho ha.h hb.h hm⟩
theorem Wy (hu:X.A.units+1<cLine) (hi:QE X i ty) (ho:QE X o td) (h1:behindInMarks .In o=false:=by first | exact nobehind _ (by decide) (by decide) | rfl):QT X (.Compare i [.In] [o] pos) (tB (tDIn ty td)):=⟨pt_cmp (pc_din hu hi.h ho.h) h1⟩
theorem qO (hu:X.A.units+1<cLine) (hi:QE X i ty) (ho:QE X o td) (h1:behindInMarks .NotIn o=false:=by first | exact nobehind _ (by decide) (by decide) | rfl):QT X (.Compare i [.NotIn] [o] pos) (tB (tDNotIn ty td)):=⟨pt_cmp (pc_dnotin hu hi.h ho.h) h1⟩
theorem gU (ha:QT X a tA):QT X (.UnaryOp .Not a pos) (aaR tA):=⟨aaS ha.h⟩
theorem bC (h:QE X e te) (he:∀ whole,isTrue e X.env whole=(do let v ←whole;standAt e.pos;holding [v] (truthy v)):=by intro _;rfl):QT X e (tB te):=⟨aaP h.h he⟩
theorem QW.qt (h:QW X e tA):QT X e tA:=⟨h.h.pt⟩
theorem Es (ha:QT X a tA):QW X (.BoolOp .And [a] pos) tA:=⟨pw_and1 ha.h⟩
theorem cM (ha:QT X a tA):QW X (.BoolOp .Or [a] pos) tA:=⟨pw_or1 ha.h⟩
theorem J4 (ha:QT X a tA) (hb:QW X (.BoolOp .And (b::es) pos) tB'):QW X (.BoolOp .And (a::b::es) pos) (aaQ tA tB'):=⟨pw_and ha.h hb.h⟩
theorem dX (ha:QT X a tA) (hb:QW X (.BoolOp .Or (b::es) pos) tB'):QW X (.BoolOp .Or (a::b::es) pos) (tOr tA tB'):=⟨pw_or ha.h hb.h⟩
theorem ak:QA X [] tNil:=⟨pa_nil⟩
theorem aj (ha:QE X e te) (hr:QA X es t) (hs:starEach (e::es) X.env=(false,eval e X.env)::starEach es X.env:=by rfl):QA X (e::es) (tCons te t):=⟨pa_cons ha.h hr.h hs⟩
theorem Za {vs:List Int} (h:qM es=some vs):QA X es (RQ vs):=⟨RV h⟩
theorem aO:QB X [] tNext:=⟨pss_nil⟩
theorem ao (h1:QS X st tS) (h2:QB X rest uS):QB X (st::rest) (tSeq tS uS):=⟨pss_cons h1.h h2.h⟩
theorem aq (h1:QS X st tS):QB X [st] tS:=⟨pss_one h1.h⟩
theorem eX:QS X st Vi:=⟨Vj⟩
theorem aY (he:QE X e te) (hs:swapsWith e none pos.line X.env=pure false:=by rfl):QS X (.Expr e pos) (tDrop te):=⟨ps_expr he.h hs⟩
theorem aG (he:QE X e te):QS X (.Return (some e) pos) (tRet te):=⟨ps_ret he.h⟩
theorem aV (hc:QT X c tA) (ha:QB X body tS) (hb:QB X els uS):QS X (.If c body els pos) (tIfS tA tS uS):=⟨ps_if hc.h ha.h hb.h⟩
theorem u9 (hp:PassesOwn (model X.prog X.w) X.A X.env X.xe) (hc:QT X c tA) (hb:QB X body tS):QS X (.While c body [] pos) (Oz tA tS):=⟨Vr hp hc.h hb.h⟩
theorem bL (hp:PassesOwn (model X.prog X.w) X.A X.env X.xe) (hc:X.calm=true) (hi:QI X tg iter wi) (hg:QG X tg g) (hb:QB X body tS)
  (hs:∀ x,foldedSetIterable iter X.env x=pure x:=by intro _;rfl):QS X (.For tg iter body [] pos) (tFor wi g tS):=⟨ps_for hp hc hi.h hg.h hb.h hs⟩
theorem aQ {i:Nat} (hN:X.N.Nodup) (hi:X.N[i]? = some x) (hx:Loc X.env.scope x) (he:QE X e te) (hs:swapsWith e (some (.Name x pos')) pos.line X.env=pure false:=by rfl) (hf:X.fn x=true∨X.env.scope.names.lookup x=some .local:=by first | exact .inl rfl | exact .inr rfl | assumption) :
  QS X (.Assign [.Name x pos'] e pos) (tAsg te (gName i)):=⟨ps_set hN hi hx he.h hs hf⟩
theorem Fj (he:QE X e te) (hg:QG X tg g) (hs:swapsWithSole [tg] e pos.line X.env=pure false:=by rfl) (hw:swappedStores [tg] e X.env=pure none:=by rfl) (h1:(assignEach [tg] X.env).map (·.2)=[assign tg X.env]:=by rfl):QS X (.Assign [tg] e pos) (tAsg te g):=⟨aa0 he.h hg.h hs hw h1⟩
theorem rZ (hu:X.A.units+1<cLine) (ho:QE X o td) (hi:QE X i ty) (hv:QE X value tv) (hs:swapsWith value (some (.Subscript o i pos')) pos.line X.env=pure false):QS X (.Assign [.Subscript o i pos'] value pos) (sDPut td ty tv):=⟨ps_dput hu ho.h hi.h hv.h hs⟩
theorem bK (hg:Gl X "range") (hm:X.mg "range" = none) (ha:QA X [a] t) (hs:starEach [a] X.env=[(false,eval a X.env)]:=by rfl):QI X tg (.Call (.Name "range" p) [a] [] pos) (Iw t):=⟨T6 hg hm ha.h hs⟩
theorem Jf (hg:Gl X "range") (hm:X.mg "range" = none) (ha:QA X [a,b] t) (hs:starEach [a,b] X.env=[(false,eval a X.env),(false,eval b X.env)]:=by rfl) (hs2:starEach [b] X.env=[(false,eval b X.env)]:=by rfl):QI X tg (.Call (.Name "range" p) [a,b] [] pos) (QV t):=⟨T7 hg hm ha.h hs hs2⟩
theorem iw (hl:QE X l tl):QI X tg l (iSq X.K tl):=⟨acD hl.h⟩
theorem aW {i:Nat} (hN:X.N.Nodup) (hi:X.N[i]? = some x) (hx:Loc X.env.scope x) (hf:X.fn x=true∨X.env.scope.names.lookup x=some .local:=by first | exact .inl rfl | exact .inr rfl | assumption):QG X (.Name x pos) (gName i):=⟨pg_name hN hi hx hf⟩
theorem Fl {tS':JQ} (ho:QE X o to) (hi:QE X i ti) (hs:Vk X tS')
  (ha:∀ v,assign (.Subscript o i pos) X.env v=(do
   let ov ←holding [v] (eval o X.env)
   let iv ←holding [v,ov] (eval i X.env)
   standAt pos
   holding [v,ov,iv] (setItem ov iv v)
   release [v,ov,iv] []):=by intro _;rfl):QG X (.Subscript o i pos) (Vo to ti tS'):=⟨aaZ ho.h hi.h hs ha⟩
end
theorem aN.aZ {P:Program} {w:World} {K:PySem.W.Frag} {mg:Str→Option Value} {base:Heap} {x:Str} {st:Stmt} {N ps:List Str} {k:Nat} {sp:Sp} {sc:Scope} {bd:List Stmt} (hsc:defScope st=sc) (hbd:defBody st=bd) (F:aN K mg x st ps) (S:FnScope N ps sc) (len:∀ vs H Q E,sp vs H Q E→vs.length=ps.length)
  (hbody:∀ (f:Addr) (cdv:Value) (A:Around) (outer:List Env) (s:Shared) (H:Hp) (vs:List V) (Q:VK) (E:XK),Room k (A.deeper (envOfC x sc s.heap.objs.size f cdv))→sp vs H Q E →
   ∃ t,QB (cxOf CX0 P w K mg base N x sc f cdv A outer s H E).nox bd t∧t { nx:=fun _ H'=>Q .non H',rt:=Q } (L2.start N vs) H):Good P w K mg base CX0 (k+1) x ps sp :=
 F.acJ hsc hbd S len fun f cdv A outer s H vs Q E hr h=>let ⟨t,h1,h2⟩:=hbody f cdv A outer s H vs Q E hr h;⟨t,h1.h,h2⟩
theorem Fun.okQ {P:Program} {w:World} {K:PySem.W.Frag} {mg:Str→Option Value} {base:Heap} {x qual:Str} {st:Stmt} {f:Addr} {fd:FuncData} {N ps:List Str} {k:Nat} {sp:Sp} {sc:Scope} {bd:List Stmt} (hsc:defScope st=sc) (hbd:defBody st=bd) (F:Fun K x qual st f fd) (S:FnScope N ps sc) (len:∀ vs H Q E,sp vs H Q E→vs.length=ps.length)
  (hbody:∀ (cdv:Value) (A:Around) (outer:List Env) (s:Shared) (H:Hp) (vs:List V) (Q:VK) (E:XK),Room k (A.deeper (envOfC qual sc s.heap.objs.size f cdv))→sp vs H Q E →
   ∃ t,QB (cxOf CX0 P w K mg base N qual sc f cdv A outer s H E).nox bd t∧t { nx:=fun _ H'=>Q .non H',rt:=Q } (L2.start N vs) H):FnOk P w K mg base CX0 (k+1) f fd ps sp :=
 F.okL hsc hbd S len fun cdv A outer s H vs Q E hr h=>let ⟨t,h1,h2⟩:=hbody cdv A outer s H vs Q E hr h;⟨t,h1.h,h2⟩
end L2
namespace L2
open PySem PySem.Spec PyProof.Rows
section
variable {t1 t2 t3 t4 t5 t6 t7 t8 u:TS} {D:Ends} {σ:St} {H:Hp}
theorem Wz (R:St→Hp→Prop) (ht:∀ N:St→Hp→Prop,(∀ σ' H',R σ' H'→N σ' H')→tSeq t1 t2 { D with nx:=N } σ H) (hu:∀ σ' H',R σ' H'→u D σ' H'):tSeq t1 (tSeq t2 u) D σ H:=ht (u D) hu
theorem abv (R:St→Hp→Prop) (ht:∀ N:St→Hp→Prop,(∀ σ' H',R σ' H'→N σ' H')→tSeq t1 (tSeq t2 (tSeq t3 (tSeq t4 t5))) { D with nx:=N } σ H) (hu:∀ σ' H',R σ' H'→u D σ' H'):tSeq t1 (tSeq t2 (tSeq t3 (tSeq t4 (tSeq t5 u)))) D σ H:=ht (u D) hu
theorem abw (R:St→Hp→Prop) (ht:∀ N:St→Hp→Prop,(∀ σ' H',R σ' H'→N σ' H')→tSeq t1 (tSeq t2 (tSeq t3 (tSeq t4 (tSeq t5 t6)))) { D with nx:=N } σ H) (hu:∀ σ' H',R σ' H'→u D σ' H'):tSeq t1 (tSeq t2 (tSeq t3 (tSeq t4 (tSeq t5 (tSeq t6 u))))) D σ H:=ht (u D) hu
end
end L2
namespace L2
open PySem PySem.Spec PyProof.Rows
section
variable {X:Cx} {tg:Expr}
end
end L2
namespace L2
open PySem PySem.Spec PyProof.Rows
section
variable {X:Cx}
end
section
variable {X:Cx} {y:Str} {px:Pos}
end
end L2
namespace My
open PySem L2
abbrev vI (n:Nat):V:=.int (n:Int)
theorem aX {n:Nat} (h:n≤1000000):n<sizeLine:=Nat.lt_of_le_of_lt h (by decide)
theorem Aw {j:Int} (h0:0≤j) (h:j<1000000000000):j.natAbs.log2<9000:=by
 have:j.natAbs<2 ^ 9000:=by
  have h1:j.natAbs<1000000000000:=by omega
  exact Nat.lt_of_lt_of_le h1 (by decide +kernel)
 by_cases hz:j.natAbs=0
 ·rw [hz];decide
 ·exact (Nat.log2_lt hz).2 this
theorem su {i j:Int} (h0:0<j) (h:j<1000000000000):aad i j:=⟨h0,Aw (by omega) h⟩
def fl (b n:Nat):List Nat:=if h:2≤b∧b≤n then n % b::fl b (n / b) else [n]
termination_by n
decreasing_by exact Nat.div_lt_self (by omega) h.1
theorem uo {b n:Nat} (h:n<b):fl b n=[n]:=by rw [fl,dif_neg (by omega)]
theorem wW {b n:Nat} (hb:2≤b) (h:b≤n):fl b n=n % b::fl b (n / b):=by rw [fl,dif_pos ⟨hb,h⟩]
theorem RW {b n:Nat}:fl b n≠[]:=by rw [fl];split <;> simp
theorem WD {b:Nat} (hb:2≤b):∀ (n:Nat),∀ d∈fl b n,d<b:=by
 intro n
 induction n using Nat.strongRecOn with
 | _ n ih =>
  intro d hd
  by_cases h:b≤n
  ·rw [wW hb h] at hd
   rcases List.mem_cons.mp hd with e | e
   ·rw [e];exact Nat.mod_lt _ (by omega)
   ·exact ih _ (Nat.div_lt_self (by omega) (by omega)) d e
  ·rw [uo (by omega)] at hd
   have:=List.mem_singleton.mp hd
   omega
theorem Fo {b:Nat} (hb:2≤b):∀ (k n:Nat),0<k→n<b ^ k→(fl b n).length≤k:=by
 intro k
 induction k with
 | zero=>intro n h _;omega
 | succ k ih =>
  intro n _ h
  by_cases hn:b≤n
  ·rw [wW hb hn,List.length_cons]
   have hk:0<k:=by
    rcases Nat.eq_zero_or_pos k with e | e
    ·subst e;rw [Nat.pow_one] at h;omega
    ·exact e
   have:n / b<b ^ k:=by
    rw [Nat.div_lt_iff_lt_mul (by omega)]
    rw [Nat.pow_succ] at h;exact h
   have:=ih (n / b) hk this
   omega
  ·rw [uo (by omega)];simp
def val (b:Nat):List Nat→Nat
 | []=>0
 | d::r=>d+b*val b r
theorem abx {b:Nat} (hb:2≤b):∀ n:Nat,val b (fl b n)=n:=by
 intro n
 induction n using Nat.strongRecOn with
 | _ n ih =>
  by_cases h:b≤n
  ·rw [wW hb h,val,ih _ (Nat.div_lt_self (by omega) (by omega))]
   exact Nat.mod_add_div n b
  ·rw [uo (by omega)];simp [val]
theorem aby {b:Nat} (hb:2≤b):∀ n:Nat,(fl b n).length=1∨(fl b n).getLast? ≠ some 0:=by
 intro n
 induction n using Nat.strongRecOn with
 | _ n ih =>
  by_cases h:b≤n
  ·right
   rw [wW hb h]
   rw [List.getLast?_cons]
   have hne:=@RW b (n / b)
   have hd:1≤n / b:=Nat.le_div_iff_mul_le (by omega) |>.2 (by omega)
   intro e
   have e2:(fl b (n / b)).getLast? = some 0:=by
    cases q:(fl b (n / b)).getLast? with
    | none=>exact absurd (List.getLast?_eq_none_iff.mp q) hne
    | some x=>rw [q] at e;simpa using e
   rcases ih (n / b) (Nat.div_lt_self (by omega) (by omega)) with h1 | h1
   ·by_cases h2:b≤n / b
    ·rw [wW hb h2,List.length_cons] at h1
     have:=List.length_pos_iff.mpr (@RW b (n / b / b))
     omega
    ·rw [uo (by omega)] at e2
     simp at e2
     omega
   ·exact h1 e2
  ·left;rw [uo (by omega)];rfl
def cell (ns:List Int) (k:Nat):Int:=ns.getD k 0
def mixed (c p:Int):Int:=((c % 2147483647+7919*p+17)*48271 % 2147483647+101*p)*69621 % 2147483629
def wt (ws:List Nat) (d:Nat):Nat:=ws.getD d 0
def fall (ws:List Nat) (n:Nat):Nat:=((fl ws.length n).map (wt ws)).sum
theorem Mr:∀ l:List Nat,(l.map (fun d:Nat=>(d:Int))).sum=((l.sum:Nat):Int)
 | []=>rfl
 | x::r=>by simp only [List.map_cons,List.sum_cons,Mr r,Int.natCast_add]
theorem Zb (l:List Nat):l.reverse.sum=l.sum:=by
 induction l with
 | nil=>rfl
 | cons x r ih=>simp only [List.reverse_cons,List.sum_append,List.sum_cons,List.sum_nil,ih];omega
theorem WK {ws:List Nat} {d:Nat} (h:d<ws.length):ws[d]? = some (wt ws d):=by
 unfold wt
 rw [List.getD_eq_getElem?_getD,List.getElem?_eq_getElem h]
 rfl
theorem Fp {ws:List Nat} {d:Nat} (h:d<ws.length):atI (ws.map vI) (d:Int)=some (vI (wt ws d)):=atI_nat (by rw [List.getElem?_map,WK h];rfl)
theorem aat {ws:List Nat} {m:Nat} (h:∀ x∈ws,x≤m) (d:Nat):wt ws d≤m:=by
 unfold wt
 rw [List.getD_eq_getElem?_getD]
 cases e:ws[d]? with
 | none=>exact Nat.zero_le _
 | some x=>exact h x (List.mem_of_getElem? e)
theorem yP {ws:List Nat} (hw:∀ x∈ws,x≤50) (n:Nat):fall ws n≤50*(fl ws.length n).length:=by
 unfold fall
 generalize fl ws.length n=l
 induction l with
 | nil=>simp
 | cons x r ih =>
  simp only [List.map_cons,List.sum_cons,List.length_cons]
  have:=aat hw x
  omega
theorem iM {x:Int} {m:Nat} (h:0<m):∃ r:Nat,x % (m:Int)=(r:Int)∧r<m:=by
 have h0:0≤x % (m:Int):=Int.emod_nonneg _ (by omega)
 have h1:x % (m:Int)<(m:Int):=Int.emod_lt_of_pos _ (by omega)
 exact ⟨(x % (m:Int)).toNat,by omega,by omega⟩
theorem oZ {n i:Nat} (h:i<n):ixN n (i:Int)=some i:=by
 unfold ixN
 rw [if_pos (by omega),if_pos (by omega)]
 rfl
theorem WL {b:Nat} (hb:2≤b):∀ ds:List Nat,(∀ d∈ds,d<b)→val b ds<b ^ ds.length
 | [],_=>by simp [val]
 | d::r,h=>by
  have h1:=WL hb r fun x hx=>h x (List.mem_cons_of_mem _ hx)
  have h2:=h d List.mem_cons_self
  rw [val,List.length_cons,Nat.pow_succ,Nat.mul_comm (b ^ r.length) b]
  have h3:b*(val b r+1)≤b*b ^ r.length:=Nat.mul_le_mul_left _ h1
  rw [Nat.mul_add] at h3
  omega
def num (b:Nat) (rs:List Nat):Nat:=val b rs.reverse
theorem WM (b:Nat) (rs:List Nat) (d:Nat):num b (rs++[d])=num b rs*b+d:=by
 unfold num
 rw [List.reverse_append,List.reverse_singleton,List.singleton_append,val,Nat.mul_comm]
 omega
theorem Fq {b:Nat} {rs:List Nat} {i d:Nat} (h:rs[i]? = some d):num b (rs.take (i+1))=num b (rs.take i)*b+d:=by
 rw [List.take_add_one,h]
 exact WM b _ d
theorem yQ {ws:List Nat} {n:Nat} (h:n<ws.length):fall ws n=wt ws n:=by unfold fall;rw [uo h];simp
theorem RX {ws:List Nat} {n:Nat} (hb:2≤ws.length) (h:ws.length≤n):fall ws n=wt ws (n % ws.length)+fall ws (n / ws.length):=by unfold fall;rw [wW hb h];simp
theorem Jg {ws:List Nat} (hb:2≤ws.length) (n:Nat):fall ws n=wt ws (n % ws.length)+(if n / ws.length=0 then 0 else fall ws (n / ws.length)):=by
 by_cases h:ws.length≤n
 ·have:0<n / ws.length:=Nat.div_pos h (by omega)
  rw [RX hb h,if_neg (by omega)]
 ·rw [yQ (by omega),Nat.mod_eq_of_lt (by omega),if_pos (Nat.div_eq_of_lt (by omega))];rfl
theorem yR {b:Nat} (hb:2≤b):65536≤b ^ 1001:=by
 have h1:(2:Nat) ^ 16≤2 ^ 1001:=Nat.pow_le_pow_right (by decide) (by decide)
 have h2:(2:Nat) ^ 1001≤b ^ 1001:=Nat.pow_le_pow_left hb 1001
 have h3:(2:Nat) ^ 16=65536:=by decide
 omega
theorem Ft {ws:List Nat} (hb:2≤ws.length) (hw:∀ x∈ws,x≤50) {n:Nat} (h:n<ws.length ^ 1001):fall ws n≤50050:=by
 have h1:=yP hw n
 have h2:=Fo hb 1001 n (by decide) h
 omega
def it (f:Nat→Nat) (n:Nat):Nat→Nat
 | 0=>n
 | i+1=>f (it f n i)
theorem yS (f:Nat→Nat) (n:Nat):∀ i,it f n (i+1)=it f (f n) i
 | 0=>rfl
 | i+1=>by rw [it,yS f n i,it]
theorem fY (f:Nat→Nat) (n i:Nat):∀ j,it f n (i+j)=it f (it f n i) j
 | 0=>rfl
 | j+1=>by rw [←Nat.add_assoc,it,fY f n i j,it]
def path (f:Nat→Nat) (n k:Nat):List Nat:=(List.range k).map (it f n)
theorem iy (f:Nat→Nat) (n k:Nat):path f n (k+1)=path f n k++[it f n k]:=by unfold path;rw [List.range_succ,List.map_append];rfl
theorem bh (f:Nat→Nat) (n k:Nat):(path f n k).length=k:=by unfold path;rw [List.length_map,List.length_range]
theorem bV {f:Nat→Nat} {n k i:Nat} (h:i<k):(path f n k)[i]? = some (it f n i):=by unfold path;rw [List.getElem?_map,List.getElem?_range h];rfl
theorem bJ {f:Nat→Nat} {n k x:Nat}:x∈path f n k ↔ ∃ i,i<k∧it f n i=x:=by
 unfold path
 rw [List.mem_map]
 exact ⟨fun ⟨i,hi,e⟩=>⟨i,List.mem_range.mp hi,e⟩,fun ⟨i,hi,e⟩=>⟨i,List.mem_range.mpr hi,e⟩⟩
theorem iz {l:List Nat} (h:l.Nodup) {i j x:Nat} (hi:l[i]? = some x) (hj:l[j]? = some x):i=j:=by
 obtain ⟨h1,e1⟩:=List.getElem?_eq_some_iff.mp hi
 obtain ⟨h2,e2⟩:=List.getElem?_eq_some_iff.mp hj
 exact (List.getElem_inj h).mp (e1.trans e2.symm)
theorem J5:∀ (n:Nat) (l:List Nat),l.Nodup→(∀ x∈l,x<n)→l.length≤n
 | 0,l,_,h=>by
  cases l with
  | nil=>exact Nat.le_refl _
  | cons x r=>exact absurd (h x List.mem_cons_self) (Nat.not_lt_zero _)
 | n+1,l,hn,h=>by
  have h1:(l.erase n).length≤n:=J5 n (l.erase n) (hn.erase n) fun x hx=>by
   obtain ⟨h1,h2⟩:=hn.mem_erase_iff.mp hx
   have:=h x h2
   omega
  by_cases hm:n∈l
  ·rw [List.length_erase_of_mem hm] at h1;omega
  ·rw [List.erase_of_not_mem hm] at h1;omega
structure vd (f:Nat→Nat) (n k:Nat):Prop where
 nd:(path f n k).Nodup
 me:it f n k∈path f n k
theorem vd.le {f:Nat→Nat} {n k k':Nat} (h:vd f n k) (h':(path f n k').Nodup):k'≤k:=by
 apply Nat.le_of_not_lt
 intro hlt
 obtain ⟨i,hi,e⟩:=bJ.mp h.me
 have:=iz h' (bV (f:=f) (n:=n) (show k<k' by omega)) (by rw [←e];exact bV (show i<k' by omega))
 omega
theorem vd.uniq {f:Nat→Nat} {n k k':Nat} (h:vd f n k) (h':vd f n k'):k=k':=Nat.le_antisymm (h'.le h.nd) (h.le h'.nd)
theorem yU {f:Nat→Nat} {n k:Nat} (h:(path f n k).Nodup) (hm:it f n k ∉ path f n k):(path f n (k+1)).Nodup:=by
 rw [iy]
 exact L2.nd_snoc h hm
theorem eY {f:Nat→Nat} {n k B:Nat} (hB:∀ i,it f n (i+1)≤B) (h:(path f n k).Nodup):k≤B+2:=by
 cases k with
 | zero=>omega
 | succ k =>
  have e:path f n (k+1)=n::path f (f n) k:=by
   unfold path
   rw [List.range_succ_eq_map,List.map_cons,List.map_map]
   congr 1
   exact List.map_congr_left fun i _=>yS f n i
  rw [e] at h
  have h2:=(List.nodup_cons.mp h).2
  have h3:=J5 (B+1) (path f (f n) k) h2 fun x hx=>by
   obtain ⟨i,_,rfl⟩:=bJ.mp hx
   have e2:=yS f n i
   have e3:=hB i
   omega
  rw [bh] at h3
  omega
theorem RZ {ws:List Nat} (hb:2≤ws.length) (hw:∀ x∈ws,x≤50) {n:Nat} (h:n<ws.length ^ 1001):∀ i,it (fall ws) n i<ws.length ^ 1001
 | 0=>h
 | i+1=>by
  have h1:=Ft hb hw (RZ hb hw h i)
  have h2:=yR hb
  show fall ws (it (fall ws) n i)<_
  omega
theorem CT {ws:List Nat} (hb:2≤ws.length) (hw:∀ x∈ws,x≤50) {n:Nat} (h:n<ws.length ^ 1001) (i:Nat):it (fall ws) n (i+1)≤50050:=Ft hb hw (RZ hb hw h i)
def wC (ps:List (Nat×V)):List (Key×V):=ps.map fun p=>(Sum.inl (p.1:Int),p.2)
theorem dB (x:Nat):∀ ps:List (Nat×V),valV (wC ps) (Sum.inl (x:Int))=ps.lookup x
 | []=>rfl
 | (a,v)::r=>by
  show valV ((Sum.inl (a:Int),v)::wC r) _=_
  rw [List.lookup_cons]
  by_cases e:a=x
  ·subst e
   rw [valV_pos rfl,beq_self_eq_true]
  ·rw [valV_neg (by intro z;have:=Sum.inl.inj z;omega),dB x r,show (x == a)=false by simp;omega]
theorem wD {ps:List (Nat×V)} {x:Nat} {v:V} (h:ps.lookup x=none):putK (wC ps) (Sum.inl (x:Int)) v=wC (ps++[(x,v)]):=by
 rw [putK_new v (by rw [dB];exact h)]
 unfold wC
 rw [List.map_append]
 rfl
theorem sE (ps:List (Nat×V)):(wC ps).length=ps.length:=by unfold wC;rw [List.length_map]
theorem lookup_isSome {x:Nat}:∀ {ps:List (Nat×V)},(ps.lookup x).isSome=decide (x∈ps.map (·.1))
 | []=>rfl
 | (a,v)::r=>by
  rw [List.lookup_cons]
  by_cases e:x=a
  ·subst e;simp
  ·rw [show (x == a)=false by simpa using e]
   show (r.lookup x).isSome=_
   rw [lookup_isSome]
   simp [e]
theorem qP {xs:List V} {s:Nat} (h:s≤xs.length):uU xs (some (s:Int)) none=xs.drop s:=by
 unfold uU
 rw [HT.rR,HT.Lp,Nat.min_eq_left h,List.take_of_length_le (by rw [List.length_drop];omega)]
theorem Pg {xs:List V} {s:Nat} (h:s≤xs.length):uU xs none (some (s:Int))=xs.take s:=by
 unfold uU
 rw [HT.rR,HT.Lp,Nat.min_eq_left h]
 rfl
structure CV (R:List Nat) (s:Nat):Prop where
 ex:∃ M,R[s]? = some M∧(∀ a∈R,M≤a)∧∀ m,m<s→R[m]? ≠ some M
theorem CV.uniq {R:List Nat} {s s':Nat} (h:CV R s) (h':CV R s'):s=s':=by
 obtain ⟨M,h1,h2,h3⟩:=h.ex
 obtain ⟨M',h1',h2',h3'⟩:=h'.ex
 have e:M=M':=Nat.le_antisymm (h2 _ (List.mem_of_getElem? h1')) (h2' _ (List.mem_of_getElem? h1))
 subst e
 rcases Nat.lt_trichotomy s s' with z | z | z
 ·exact absurd h1 (h3' s z)
 ·exact z
 ·exact absurd h1' (h3 s' z)
theorem CV.lt {R:List Nat} {s:Nat} (h:CV R s):s<R.length:=by
 obtain ⟨M,h1,_⟩:=h.ex
 exact (List.getElem?_eq_some_iff.mp h1).1
theorem yV {x:Nat}:∀ {R:List Nat},x∈R→∃ j:Nat,R[j]? = some x∧∀ m:Nat,m<j→R[m]? ≠ some x
 | [],h=>by cases h
 | y::r,h=>by
  by_cases e:y=x
  ·exact ⟨0,by rw [e];rfl,fun m hm=>absurd hm (Nat.not_lt_zero _)⟩
  ·obtain ⟨j,h1,h2⟩:=yV ((List.mem_cons.mp h).resolve_left fun z=>e z.symm)
   refine ⟨j+1,h1,fun m hm=>?_⟩
   cases m with
   | zero=>intro z;exact e (by simpa using z)
   | succ m=>exact h2 m (by omega)
def WQ (R:List Nat) (s:Nat):List Nat:=R.drop s++R.take s
theorem Zc (R:List Nat) (s:Nat):(WQ R s).length=R.length:=by
 unfold WQ
 rw [List.length_append,List.length_drop,List.length_take]
 omega
structure fZ (f:Nat→Nat) (n:Nat) (R:List Nat) (j:Nat):Prop where
 ex:∃ k s,vd f n k∧j<k∧it f n j=it f n k∧CV ((path f n k).drop j) s∧R=WQ ((path f n k).drop j) s
theorem fZ.uniq {f:Nat→Nat} {n j j':Nat} {R R':List Nat} (h:fZ f n R j) (h':fZ f n R' j'):R=R'∧j=j':=by
 obtain ⟨k,s,h1,h2,h3,h4,h5⟩:=h.ex
 obtain ⟨k',s',h1',h2',h3',h4',h5'⟩:=h'.ex
 have e:=h1.uniq h1'
 subst e
 have e2:j=j':=iz h1.nd (bV h2) (by rw [h3,←h3'];exact bV h2')
 subst e2
 have e3:=h4.uniq h4'
 subst e3
 exact ⟨h5.trans h5'.symm,rfl⟩
theorem fZ.len {f:Nat→Nat} {n j:Nat} {R:List Nat} (h:fZ f n R j) {B:Nat} (hB:∀ i,it f n (i+1)≤B):R.length≤B+2∧0<R.length∧j≤B+2:=by
 obtain ⟨k,s,h1,h2,h3,h4,h5⟩:=h.ex
 have:=eY hB h1.nd
 rw [h5,Zc,List.length_drop,bh]
 omega
def Dr (f:Nat→Nat) (n k:Nat):List (Nat×V):=(List.range k).map fun i=>(it f n i,vI i)
theorem Jh (f:Nat→Nat) (n k:Nat):Dr f n (k+1)=Dr f n k++[(it f n k,vI k)]:=by unfold Dr;rw [List.range_succ,List.map_append];rfl
theorem WR (f:Nat→Nat) (n k:Nat):(Dr f n k).length=k:=by unfold Dr;rw [List.length_map,List.length_range]
theorem Ax (f:Nat→Nat) (n k:Nat):(Dr f n k).map (·.1)=path f n k:=by unfold Dr path;rw [List.map_map];rfl
theorem dG {x:Nat} {ps:List (Nat×V)} (h:x ∉ ps.map (·.1)):ps.lookup x=none:=by
 cases q:ps.lookup x with
 | none=>rfl
 | some v =>
  have:(ps.lookup x).isSome=true:=by rw [q];rfl
  rw [lookup_isSome] at this
  exact absurd (of_decide_eq_true this) h
theorem lookup_append_none {x:Nat}:∀ {ps qs:List (Nat×V)},ps.lookup x=none→(ps++qs).lookup x=qs.lookup x
 | [],_,_=>rfl
 | (a,v)::r,qs,h=>by
  rw [List.lookup_cons] at h
  rw [List.cons_append,List.lookup_cons]
  cases e:x == a with
  | true=>rw [e] at h;cases h
  | false=>rw [e] at h;exact lookup_append_none h
theorem gW {x:Nat} {w:V}:∀ {ps qs:List (Nat×V)},ps.lookup x=some w→(ps++qs).lookup x=some w
 | [],_,h=>by cases h
 | (a,v)::r,qs,h=>by
  rw [List.lookup_cons] at h
  rw [List.cons_append,List.lookup_cons]
  cases e:x == a with
  | true=>rw [e] at h;exact h
  | false=>rw [e] at h;exact gW h
theorem R0 {f:Nat→Nat} {n:Nat}:∀ {k j:Nat},(path f n k).Nodup→j<k→(Dr f n k).lookup (it f n j)=some (vI j)
 | 0,j,_,h=>absurd h (Nat.not_lt_zero _)
 | k+1,j,hn,h=>by
  rw [Jh]
  have hn':(path f n k).Nodup:=by rw [iy] at hn;exact (List.nodup_append.mp hn).1
  by_cases e:j=k
  ·subst e
   rw [lookup_append_none (dG (by
    rw [Ax]
    intro z
    obtain ⟨i,hi,e⟩:=bJ.mp z
    have:=iz hn (bV (show i<j+1 by omega)) (by rw [e];exact bV h)
    omega)),List.lookup_cons,beq_self_eq_true]
  ·exact gW (R0 hn' (by omega))
theorem WT {b:Nat} (hb:2≤b):∀ n:Nat,1≤n→b ^ ((fl b n).length - 1)≤n:=by
 intro n
 induction n using Nat.strongRecOn with
 | _ n ih =>
  intro hn
  by_cases h:b≤n
  ·have h1:0<n / b:=Nat.div_pos h (by omega)
   have h2:=ih (n / b) (Nat.div_lt_self (by omega) (by omega)) h1
   have h3:=List.length_pos_iff.mpr (@RW b (n / b))
   rw [wW hb h,List.length_cons,show (fl b (n / b)).length+1 - 1=(fl b (n / b)).length - 1+1 by omega,Nat.pow_succ]
   exact Nat.le_trans (Nat.mul_le_mul_right b h2) (Nat.div_mul_le_self n b)
  ·rw [uo (by omega)]
   simpa using hn
theorem Ui:∀ l:Nat,10≤l→50*l<2 ^ (l - 1):=by
 intro l
 induction l with
 | zero=>intro h;omega
 | succ l ih =>
  intro h
  by_cases e:l=9
  ·subst e;decide
  ·have h1:=ih (by omega)
   have h2:2 ^ (l+1 - 1)=2*2 ^ (l - 1):=by
    rw [show l+1 - 1=l - 1+1 by omega,Nat.pow_succ,Nat.mul_comm]
   omega
theorem eZ {ws:List Nat} (hb:2≤ws.length) (hw:∀ x∈ws,x≤50) {n:Nat} (h:451≤n):fall ws n<n:=by
 have h1:=yP hw n
 by_cases hl:(fl ws.length n).length≤9
 ·omega
 ·have h2:=Ui (fl ws.length n).length (by omega)
  have h3:=WT hb n (by omega)
  have h4:2 ^ ((fl ws.length n).length - 1)≤ws.length ^ ((fl ws.length n).length - 1):=Nat.pow_le_pow_left hb _
  omega
structure Zd (f:Nat→Nat) (B:Nat):Prop where
 pos:1≤B
 at_:B - 1≤f (B - 1)
 from_:∀ n,B≤n→f n<n
theorem Ji (f:Nat→Nat) (n k j:Nat):(path f n k).drop j=path f (it f n j) (k - j):=by
 refine List.ext_getElem? fun i=>?_
 rw [List.getElem?_drop]
 by_cases h:j+i<k
 ·rw [bV h,bV (show i<k - j by omega),fY]
 ·rw [List.getElem?_eq_none (by rw [bh];omega),List.getElem?_eq_none (by rw [bh];omega)]
theorem R3 {f:Nat→Nat} {x L:Nat} (h:it f x L=x) (t:Nat):it f x (L+t)=it f x t:=by rw [fY,h]
theorem WW {f:Nat→Nat} {x L:Nat} (hL:0<L) (h:it f x L=x) (t:Nat):it f x t=it f x (t % L):=by
 induction t using Nat.strongRecOn with
 | _ t ih =>
  by_cases ht:t<L
  ·rw [Nat.mod_eq_of_lt ht]
  ·have e:t=L+(t - L):=by omega
   rw [e,R3 h,ih (t - L) (by omega),Nat.add_mod_left]
theorem WX {f:Nat→Nat} {x L s:Nat} (hs:s≤L) (h:it f x L=x):WQ (path f x L) s=path f (it f x s) L:=by
 unfold WQ
 refine List.ext_getElem? fun i=>?_
 rw [Ji]
 by_cases h1:i<L - s
 ·rw [List.getElem?_append_left (by rw [bh];exact h1),bV h1,bV (by omega)]
 ·rw [List.getElem?_append_right (by rw [bh];omega),bh]
  by_cases h2:i<L
  ·rw [bV h2,List.getElem?_take_of_lt (by omega),bV (by omega),←fY,show s+i=L+(i - (L - s)) by omega,R3 h]
  ·rw [List.getElem?_eq_none (by rw [List.length_take,bh];omega),List.getElem?_eq_none (by rw [bh];omega)]
theorem Fv (R:List Nat) (s:Nat):(WQ R s).Perm R:=by
 unfold WQ
 exact (List.perm_append_comm).trans (by rw [List.take_append_drop])
structure bw (f:Nat→Nat) (R:List Nat) (M L:Nat):Prop where
 eq:R=path f M L
 pos:0<L
 loop:it f M L=M
 nd:(path f M L).Nodup
 low:∀ x∈R,M≤x
theorem bw.R4 {f:Nat→Nat} {R:List Nat} {M L:Nat} (h:bw f R M L):vd f M L:=⟨h.nd,by rw [h.loop];exact bJ.mpr ⟨0,h.pos,rfl⟩⟩
theorem bw.head {f:Nat→Nat} {R:List Nat} {M L:Nat} (h:bw f R M L):R[0]? = some M:=by rw [h.eq];exact bV h.pos
theorem bw.fj {f:Nat→Nat} {R:List Nat} {M L:Nat} (h:bw f R M L) (t:Nat):it f M t∈R:=by
 rw [h.eq,WW h.pos h.loop t]
 exact bJ.mpr ⟨_,Nat.mod_lt _ h.pos,rfl⟩
theorem bw.J6 {f:Nat→Nat} {R:List Nat} {M L:Nat} (h:bw f R M L) {x:Nat} (hx:x∈R):∃ i,i<L∧it f M i=x:=by rw [h.eq] at hx;exact bJ.mp hx
theorem bw.back {f:Nat→Nat} {R:List Nat} {M L:Nat} (h:bw f R M L) {x:Nat} (hx:x∈R):∃ t,it f x t=M:=by
 obtain ⟨i,hi,e⟩:=h.J6 hx
 exact ⟨L - i,by rw [←e,←fY,show i+(L - i)=L by omega,h.loop]⟩
theorem bw.uniq {f:Nat→Nat} {R R':List Nat} {M M' L L':Nat} (h:bw f R M L) (h':bw f R' M' L') {n i i':Nat} (hi:it f n i∈R) (hi':it f n i'∈R'):R=R'∧M=M':=by
 have key:∀ {R R':List Nat} {M M' L L':Nat},bw f R M L→bw f R' M' L'→∀ {i i':Nat},it f n i∈R→it f n i'∈R'→i≤i'→it f n i'∈R:=fun {R R' M M' L L'} h h' {i i'} hi hi' hle=>by
  obtain ⟨a,_,e⟩:=h.J6 hi
  have:it f n i' = it f M (a+(i' - i)):=by rw [fY,e,←fY,show i+(i' - i)=i' by omega]
  rw [this]
  exact h.fj _
 have fin:∀ {R R':List Nat} {M M' L L':Nat},bw f R M L→bw f R' M' L'→∀ {y:Nat},y∈R→y∈R'→M≤M':=fun {R R' M M' L L'} h h' {y} hy hy'=>by
  obtain ⟨t,e⟩:=h'.back hy'
  obtain ⟨a,_,e2⟩:=h.J6 hy
  refine h.low _ ?_
  rw [←e,←e2,←fY]
  exact h.fj _
 have hm:∃ y,y∈R∧y∈R':=by
  rcases Nat.le_total i i' with z | z
  ·exact ⟨_,key h h' hi hi' z,hi'⟩
  ·exact ⟨_,hi,key h' h hi' hi z⟩
 obtain ⟨y,hy,hy'⟩:=hm
 have e:M=M':=Nat.le_antisymm (fin h h' hy hy') (fin h' h hy' hy)
 subst e
 have e2:=h.R4.uniq h'.R4
 subst e2
 exact ⟨h.eq.trans h'.eq.symm,rfl⟩
theorem fZ.ring {f:Nat→Nat} {n j:Nat} {R:List Nat} (h:fZ f n R j):∃ M L i,bw f R M L∧it f n i=M:=by
 obtain ⟨k,s,h1,h2,h3,h4,h5⟩:=h.ex
 have hL:it f (it f n j) (k - j)=it f n j:=by rw [←fY,show j+(k - j)=k by omega];exact h3.symm
 have hd:=Ji f n k j
 have hs:=h4.lt
 rw [List.length_drop,bh] at hs
 obtain ⟨M,g1,g2,_⟩:=h4.ex
 rw [hd,bV hs] at g1
 have eM:it f (it f n j) s=M:=Option.some.inj g1
 have hR:R=path f M (k - j):=by rw [h5,hd,WX (by omega) hL,eM]
 have hp:R.Perm ((path f n k).drop j):=by rw [h5];exact Fv _ _
 refine ⟨M,k - j,j+s,⟨hR,by omega,?_,?_,fun x hx=>g2 x (hp.mem_iff.mp hx)⟩,by rw [fY];exact eM⟩
 ·rw [←eM,←fY,Nat.add_comm,fY,hL]
 ·rw [←hR]
  exact hp.nodup_iff.mpr (h1.nd.sublist (List.drop_sublist _ _))
end My
namespace L2
open PySem PySem.Spec PyProof.Rows
section
variable {P:Program} {w:World} {l outer:List Env} {env:Env} {H H':Hp} {s s':Shared} {C a0:Value} {a:Addr} {B h':Heap}
end
section
variable {X:Cx} {pins:List (Addr×Obj)} {σ:St} {H H':Hp} {s s':Shared} {C a0:Value} {a:Addr} {B h':Heap}
end
end L2
namespace PySem
open PySem.W
section
variable {prog:Program} {w:World} {A:Around} {E:Value→Shared→Prop} {h:Heap} {g:Array GenState} {d:Drawn} {t:Nat} {os:OsState} {a:Addr} {o:Obj} {K:Frag} {C:Addr}
end
end PySem
namespace L2
open PySem PySem.Spec PyProof.Rows PySem.W
section
variable {X:Cx} {x n:Str} {C:Addr} {e:Expr} {te:TE} {np cpos pos hp:Pos} {E:XK} {i:Nat}
variable {pins pins':List (Addr×Obj)} {σ:St} {H H':Hp} {s s':Shared}
end
end L2
namespace L2
open PySem PySem.Spec PyProof.Rows
section
variable {X:Cx} {scope:Scope} {x y:Str} {px py pos spos:Pos} {elt iter:Expr} {wi:TI} {te:TE} {i:Nat}
theorem WY (hN:X.N.Nodup) (hi':X.N[i]? = some y) (hy:X.env.scope.names.lookup y=some .local) (S:cu X scope x) (hc:X.calm=true) (hi:PI X (.Name x px) iter wi) (he:∀ C s H fp,PE (X.blk scope x C s H fp) elt te) (hg:∀ C s H fp,PG (X.blk scope x C s H fp) (.Name x px) (gName 0))
  (hsw:swapsWith (.ListComp elt [⟨.Name x px,iter,[],0⟩] scope pos) (some (.Name y py)) spos.line X.env=pure true:=by rfl) (hs:∀ x,foldedSetIterable iter X.env x=pure x:=by intro _;rfl) :
  PS X (.Assign [.Name y py] (.ListComp elt [⟨.Name x px,iter,[],0⟩] scope pos) spos) (tAsg (tLC wi te) (gName i)):=by
 intro pins s σ H D I h
 have hnames:∀ z∈scope.names,z.2=.local→scope.names.lookup z.1=some .local:=fun z hz hl=>by
  have:=List.all_eq_true.mp S.loc z hz
  rw [hl] at this
  simpa using this
 rw [exec_Assign_Name_used _ _ _ _ hsw]
 refine wpAny_bind (wpAny_standAt (wpAny_bind ?_))
 show wpAny _ X.A (do let _ ←comprehension (.ListComp elt [⟨.Name x px,iter,[],0⟩] scope pos) scope X.env _ (newList []) false (eval iter X.env) (some (assign (.Name y py) X.env))) _ _ s
 refine wpAny_bind (wpAny_mono (wpAny_comprehension_free (use:=some (assign (.Name y py) X.env)) (Q:=fun _ s'=>SP X pins D .next s') rfl hs (xU (S.has I.ok)) S.kind hnames
  (thn (hi pins s σ H _ I h) fun v s1 h1=>thn h1 fun itv s2 h2=>?_)) (fun _ s' hq=>wpAny_pure (wpAny_pure hq)) fun _ _ e=>e)
 obtain ⟨it,fp,tn,J,H2,rfl,I2,T,st2,f2,q2⟩:=h2
 refine Mi S hc (Q:=fun x H1=>gName i x σ H1 D.nx) (RR:=fun acc C=>compPost (model X.prog X.w) X.A X.xe (some (assign (.Name y py) X.env)) (fun _ s'=>SP X pins D .next s') acc C) he hg I2 T st2 f2 q2 fun Da C s' H' m' qD I' hm hn hC=>?_
 have neL:C≠X.env.locals:=Nat.ne_of_gt (Nat.lt_of_lt_of_le I2.lt hC)
 have neC:∀ y c,X.env.cells.lookup y=some c→c≠C:=fun y c e z=>by
  obtain ⟨_,o,ho,_⟩:=I2.cell y c e
  exact absurd (Heap.lt_size ho) (by rw [z];exact Nat.not_lt.mpr hC)
 show wpAny _ X.A (assign (.Name y py) X.env (.ref Da)) _ _ _
 refine wpAny_assign_Name (store_ok2 I' hN hi' (.inl hy) (v:=.ref Da) rfl (fun s3 I3 hb3=>?_) (.inr hy))
 obtain ⟨b3,sb3,h3⟩:=hb3
 have b3C:C≠b3:=by
  rcases h3 with z | z
  ·rw [z];exact neL
  ·exact (neC y b3 z).symm
 refine ⟨m',hm.sameBut sb3 b3C,fun h' hs'=>?_⟩
 refine ⟨_,H',I3.turned (it:=C) (t':=s3.toks) (fun b o hb e=>hs'.extBut b o hb e) hn neL (.inr (Nat.le_trans I2.sz hC)) neC (fun p hp z=>?_),qD⟩
 exact absurd (Heap.lt_size (I2.pin p hp).1) (by rw [z];exact Nat.not_lt.mpr hC)
end
open PySem.W
def mq (K:Frag) (x:Str):Addr:=match nsIn K mainGlobals x with
 | some (some (.ref C))=>C
 | _=>0
theorem Fw {K:Frag} {x:Str} {C:Addr} (h:nsIn K mainGlobals x=some (some (.ref C))):mq K x=C:=by unfold mq;rw [h]
section
variable {K:Frag} {mg:Str→Option Value}
end
section
variable {X:Cx}
end
end L2
namespace L2
open PySem PySem.Spec PyProof.Rows
section
variable {X:Cx} {K:PySem.W.Frag} {mg:Str→Option Value} {x n y:Str} {C:Addr} {e:Expr} {te:TE} {np cpos pos hp px py spos:Pos} {E:XK} {i j:Nat}
theorem W0 {scope:Scope} {elt iter:Expr} {wi:TI} (hN:X.N.Nodup) (hi':X.N[i]? = some y) (hy:X.env.scope.names.lookup y=some .local) (S:cu X scope x) (hc:X.calm=true) (hi:QI X (.Name x px) iter wi) (he:∀ C s H fp,QE (X.blk scope x C s H fp) elt te) (hg:∀ C s H fp,QG (X.blk scope x C s H fp) (.Name x px) (gName 0))
  (hsw:swapsWith (.ListComp elt [⟨.Name x px,iter,[],0⟩] scope pos) (some (.Name y py)) spos.line X.env=pure true:=by rfl) (hs:∀ x,foldedSetIterable iter X.env x=pure x:=by intro _;rfl) :
  QS X (.Assign [.Name y py] (.ListComp elt [⟨.Name x px,iter,[],0⟩] scope pos) spos) (tAsg (tLC wi te) (gName i)):=⟨WY hN hi' hy S hc hi.h (fun C s H fp=>(he C s H fp).h) (fun C s H fp=>(hg C s H fp).h) hsw hs⟩
end
section
variable {X:Cx}
end
end L2
namespace My
open PySem L2
end My
namespace L2
open PySem PySem.Spec PyProof.Rows
def Ze (lo:Int) (n:Nat) (te:TE) (σ:St) (H1:Hp) (Q:VK):Prop:=∀ D,H1 D=none→∃ W:Nat→Nat→Hp→Prop,(∃ m,W 0 m (upd H1 D (.lst [])))∧∀ i m H2,W i m H2 →
  ((T5 lo n).stop i H2∧Q (.ref D) H2)∨((T5 lo n).go i H2∧∀ x H',(T5 lo n).yld i H2 x H'→te (some x::σ) H' fun y H3=>∃ ys,H3 D=some (.lst ys)∧ys.length<sizeLine∧∃ m',m'<m∧W (i+1) m' (upd H3 D (.lst (ys++[y]))))
theorem R5 (ta:TA) (te:TE) (σ:St) (H:Hp) (Q:VK):tLC (Iw ta) te σ H Q=ta σ H fun vs H1=>abn vs fun j=>-(2 ^ 62)≤j∧j<2 ^ 62∧Ze 0 j.toNat te σ H1 Q:=rfl
theorem R6 (ta:TA) (te:TE) (σ:St) (H:Hp) (Q:VK):tLC (QV ta) te σ H Q=ta σ H fun vs H1=>abo vs fun i j=>(-(2 ^ 62)≤i∧i<2 ^ 62∧-(2 ^ 62)≤j∧j<2 ^ 62)∧Ze i (j - i).toNat te σ H1 Q:=rfl
theorem Ze.at {lo:Int} {n:Nat} {te:TE} {σ:St} {H:Hp} {Q:VK} (hlen:n<sizeLine) (Pv:Addr→Nat→List V→Hp→Prop) (h0:∀ D,H D=none→Pv D 0 [] (upd H D (.lst [])))
  (hs:∀ (D:Addr) (i:Nat) (ys:List V) (H2:Hp) (R:VK),i<n→H D=none→H2 D=some (.lst ys)→ys.length=i→Pv D i ys H2→Same H H2→(∀ y H3,H3 D=some (.lst ys)→Same H H3→Pv D (i+1) (ys++[y]) (upd H3 D (.lst (ys++[y])))→R y H3)→te (some (.int (lo+i))::σ) H2 R)
  (hd:∀ D ys H2,H D=none→H2 D=some (.lst ys)→ys.length=n→Pv D n ys H2→Same H H2→Q (.ref D) H2):Ze lo n te σ H Q:=by
 intro D hD
 refine ⟨fun i m H2=>m=n - i∧i≤n∧∃ ys,ys.length=i∧H2 D=some (.lst ys)∧Pv D i ys H2∧Same H H2,⟨n,by simp,Nat.zero_le _,[],rfl,upd_same,h0 D hD,Same.new hD⟩,?_⟩
 rintro i m H2 ⟨rfl,hi,ys,hys,hD2,hP,hsm⟩
 by_cases hlt:i<n
 ·refine .inr ⟨hlt,fun x H' hy=>?_⟩
  obtain ⟨rfl,rfl⟩:=hy
  refine hs D i ys _ _ hlt hD hD2 hys hP hsm fun y H3 hD3 h3 hP3=>⟨ys,hD3,by omega,n - (i+1),by omega,rfl,hlt,ys++[y],by simp [hys],upd_same,hP3,fun b o e=>?_⟩
  rw [upd_ne (ne_of_none e hD)]
  exact h3 _ _ e
 ·obtain rfl:i=n:=by omega
  exact .inl ⟨Nat.le_refl _,hd D ys H2 hD hD2 hys hP hsm⟩
theorem Ze.map {lo:Int} {n:Nat} {te:TE} {σ:St} {H:Hp} {Q:VK} (hlen:n<sizeLine) (f:Nat→V)
  (hs:∀ (i:Nat) (H2:Hp) (R:VK),i<n→Same H H2→(∀ H3,Same H2 H3→R (f i) H3)→te (some (.int (lo+i))::σ) H2 R)
  (hd:∀ D H2,H D=none→H2 D=some (.lst ((List.range n).map f))→Same H H2→Q (.ref D) H2):Ze lo n te σ H Q:=by
 refine Ze.at hlen (fun _ i ys _=>ys=(List.range i).map f) (fun _ _=>rfl) (fun D i ys H2 R hi hD hD2 hl hP hsm hR=>hs i H2 R hi hsm fun H3 h3=>hR _ _ (h3 _ _ hD2) (hsm.trans h3) ?_) fun D ys H2 hD hD2 _ hP hsm=>hd D H2 hD (by rw [hD2,hP]) hsm
 rw [hP,List.range_succ,List.map_append];rfl
end L2
namespace L2
open PySem PySem.Spec PyProof.Rows
section
variable {X:Cx} {pins:List (Addr×Obj)} {σ:St} {H H':Hp} {s s':Shared} {h':Heap}
theorem Inv.Zf {t':Nat} {ch:List Addr} (I:Inv X pins σ H s) (k:∀ b o,b ∉ ch→s.heap.get? b=some o→h'.get? b=some o) (hf:∀ b∈ch,FpOk X pins H b):Inv X pins σ H { s with heap:=h',toks:=t' }:=by
 have nit:∀ b u,H b=some u→b ∉ ch:=fun b u e z=>by rw [(hf b z).1] at e;cases e
 refine I.step (g':=s.gens) (d':=s.drawn) (ch:=ch) (fun b hb=>?_) (fun b o _ _ hc e _=>k b o hc e) (fun b o _ _ hc e _=>⟨o.slots,k b o hc e⟩) (fun _ _ _ _ n=>n)
  (fun b o hc e=>⟨o,k b o hc e⟩) (fun _ _ e=>e) (fun _ _ _ e=>e) (fun b ps e=>⟨#[],by rw [e];simp⟩) (fun m hm=>?_) (fun b u e=>?_) I.bare
 ·obtain ⟨_,f1,_,f3,f4,f5⟩:=hf b hb
  exact ⟨f3,f1,f4,f5⟩
 ·obtain ⟨o,es,ep,ho,r⟩:=hm
  exact ⟨o,es,ep,k _ o (fun z=>(hf _ z).2.1 rfl) ho,r⟩
 ·refine (I.hok b u e).stay (fun c v hc q=>k c v ?_ q) (fun _ q=>q) fun _ _ q=>q
  rcases hc with z | z
  ·rw [z];exact nit b u e
  ·exact nit c _ z
theorem Inv.track {a:Addr} {u:HO} (I:Inv X pins σ H s) (hn:H a=none) (h0:X.s₀.heap.get? a=none) (hL:a≠X.env.locals) (hc:∀ x c,X.env.cells.lookup x=some c→c≠a) (hp:∀ p∈X.pn++pins,p.1≠a) (new:ObjOk X.prog X.w (upd H a u) s.heap a u) :
  Inv X pins σ (upd H a u) s:=by
 refine ⟨I.ok,I.os,I.bare,⟨I.base.keep,I.base.slot,fun b ob q n hx=>?_,I.base.there,fun b xs q=>?_,fun b ob u q=>?_,fun b ps q=>?_⟩,I.loc,I.cell,?_,fun y c' q=>?_,fun p hq=>?_,fun b v q=>?_,I.len⟩
 ·rw [upd_ne (fun z=>by rw [z,h0] at q;cases q)];exact I.base.free b ob q n hx
 ·have:=I.base.tups b xs q
  rw [upd_ne (ne_of_none this hn)];exact this
 ·have:=I.base.frzs b ob u q
  rw [upd_ne (ne_of_none this hn)];exact this
 ·obtain ⟨more,this⟩:=I.base.tbls b ps q
  exact ⟨more,by rw [upd_ne (ne_of_none this hn)];exact this⟩
 ·rw [upd_ne hL.symm];exact I.free
 ·rw [upd_ne (hc y c' q)];exact I.freeC y c' q
 ·obtain ⟨a1,a2,a3⟩:=I.pin p hq
  exact ⟨a1,by rw [upd_ne (hp p hq)];exact a2,a3⟩
 ·by_cases hb:b=a
  ·subst hb
   rw [upd_same] at q;cases q
   exact new
  ·rw [upd_ne hb] at q
   exact (I.hok b v q).stay (fun _ _ _ r=>r) (fun c r=>by rw [upd_ne (ne_of_none r hn)];exact r) fun c xs r=>by rw [upd_ne (ne_of_none r hn)];exact r
theorem Inv.newer (I:Inv X pins σ H s) {a:Addr} (h:s.heap.objs.size≤a):X.s₀.heap.get? a=none∧a≠X.env.locals∧(∀ x c,X.env.cells.lookup x=some c→c≠a)∧∀ p∈X.pn++pins,p.1≠a:=by
 refine ⟨Heap.get?_none_of_le (Nat.le_trans I.sz h),Nat.ne_of_gt (Nat.lt_of_lt_of_le I.lt h),fun x c e z=>?_,fun p hp z=>?_⟩
 ·obtain ⟨v,q⟩:=I.cell x c e
  exact absurd (Nat.lt_of_lt_of_le q.lt (by rw [z];exact h)) (Nat.lt_irrefl _)
 ·exact absurd (Nat.lt_of_lt_of_le (Heap.lt_size (I.pin p hp).1) (by rw [z];exact h)) (Nat.lt_irrefl _)
end
def Ite (K:PySem.W.Frag) (a:Addr):It :=
 ⟨fun i H=>∃ xs x,SqL K H a xs∧xs[i]? = some x,fun i H v H'=>∃ p x,H p=none∧v=.ref p∧H' = upd H p (.tup [.int (i:Int),x])∧∀ xs,SqL K H a xs→xs[i]? = some x,fun i H=>∃ xs,SqL K H a xs∧xs.length≤i⟩
theorem Uj {P:Program} {w:World} {K:PySem.W.Frag} {es:List Expr} {k:Nat} {tp:Pos} (a e it:Addr) (hei:e≠it):Turn P w K (.Tuple es k tp) (Ite K a) [e,it] e (fun i h=>(∃ old,IsEnum h e it (i:Int) old)∧h.IsListIter it a i) where
 mem:=by simp
 obj:=fun i h st b hb=>by
  obtain ⟨⟨old,he⟩,o,hit,c,d⟩:=st
  rcases List.mem_cons.mp hb with z | z
  ·subst z;exact ⟨_,he,fun v z=>by cases z⟩
  ·rw [List.mem_singleton.mp z];exact ⟨o,hit,fun v z=>by rw [d] at z;cases z⟩
 keep:=fun i h h' st k=>by
  obtain ⟨⟨old,he⟩,hit⟩:=st
  exact ⟨⟨old,k e (by simp) _ he⟩,hit.at fun o x=>k it (by simp) o x⟩
 item:=by
  intro X hP hw hK hc i pins s σ H E I hf st hg
  subst hP hw hK
  obtain ⟨xs,x,hq,hx⟩:=hg
  obtain ⟨⟨old,he⟩,hit⟩:=st
  obtain ⟨its,rv,p,hz⟩:=I.list hq
  obtain ⟨u,hu,ru⟩:=rv.get hx
  have hie:=hei.symm
  refine wpAny_pyNext_enum_item he hit p.isList (x:=u) (by simpa using hu) hei fun h1 ho hit1 hT hsz hk=>?_
  have helt:e<s.heap.objs.size:=Heap.lt_size he
  have hilt:it<s.heap.objs.size:=by obtain ⟨_,y,_⟩:=hit;exact Heap.lt_size y
  refine ⟨_,rfl,wpAny_letOwnedTupleGo_enum ho fun h2 he2 hs2=>?_⟩
  have hT2:h2.get? s.heap.objs.size=some { cls:=.type "tuple",data:=.seq #[.int i s.toks,u] }:=(hs2.2 _ (Nat.ne_of_gt helt)).trans hT
  have I1:Inv X pins σ H { s with heap:=h2,toks:=s.toks+1 }:=I.Zf (ch:=[e,it]) (fun b o hb q=>by
   have hbe:b≠e:=fun z=>hb (by simp [z])
   have hbi:b≠it:=fun z=>hb (by simp [z])
   exact hs2.extBut b o hbe (hk b o hbe hbi q)) hf
  obtain ⟨n0,n1,n2,n3⟩:=I.newer (a:=s.heap.objs.size) (Nat.le_refl _)
  have hfr:H s.heap.objs.size=none:=I.hok.fresh (Nat.le_refl _)
  have I2:Inv X pins σ (upd H s.heap.objs.size (.tup [.int (i:Int),x])) { s with heap:=h2,toks:=s.toks+1 } :=
   I1.track hfr n0 n1 n2 n3 ⟨by show 2≤sizeLine;decide,[.int i s.toks,u],.cons ⟨_,rfl⟩ (.cons ru .nil),_,hT2,rfl,_,rfl⟩
  refine ⟨.ref s.heap.objs.size,_,I2,rfl,⟨_,x,hfr,rfl,rfl,fun ys hy=>by rw [I.list_inj hy hq];exact hx⟩,⟨⟨_,by
   have e0:((i+1:Nat):Int)=(i:Int)+1:=by push_cast;rfl
   rw [e0];exact he2⟩,hit1.extBut hs2.extBut hei.symm⟩,fun b hb=>?_⟩
  rw [upd_ne (fun z=>?_)]
  ·exact (hf b hb).1
  ·rw [z] at hb
   rcases List.mem_cons.mp hb with q | q
   ·exact absurd q (Nat.ne_of_gt helt)
   ·exact absurd (List.mem_singleton.mp q) (Nat.ne_of_gt hilt)
 done:=by
  intro X hP hw hK hc i pins s σ H E I hf st hg
  subst hP hw hK
  obtain ⟨xs,hq,hx⟩:=hg
  obtain ⟨⟨old,he⟩,hit⟩:=st
  obtain ⟨its,rv,p,hz⟩:=I.list hq
  have hl:=rv.length
  obtain ⟨f0,f1,f2,f3,f4,f5⟩:=hf it (by simp)
  exact wpAny_pyNext_enum_end (I.ok.hd hc) he hit p.isList (by simp;omega) fun h' eb=>⟨rfl,I.turned (t':=s.toks) (fun b o hb q=>eb b o hb q) f0 f1 f3 f4 f5⟩
 self:=fun _ _ _ _ _ st h=>by
  obtain ⟨⟨old,he⟩,_⟩:=st
  exact wpAny_pyIter_enum he h
section
variable {X:Cx} {es:List Expr} {k:Nat} {tp:Pos}
theorem J7:bootBuiltins "enumerate" = some (.type "enumerate"):=by rfl
def aau (K:PySem.W.Frag) (ta:TA):TI:=fun σ H R=>ta σ H fun vs H1=>∃ a,vs=[.ref a]∧(∃ xs,SqL K H1 a xs)∧R (Ite K a) H1
theorem J8 {a:Expr} {ta:TA} {p pos:Pos} (hg:Gl X "enumerate") (hm:X.mg "enumerate" = none) (ha:QA X [a] ta) (hs:starEach [a] X.env=[(false,eval a X.env)]:=by rfl):QI X (.Tuple es k tp) (.Call (.Name "enumerate" p) [a] [] pos) (aau X.K ta):=by
 constructor
 intro pins s σ H R I h
 refine Call_ (ld_blt I hg hm J7 (PyProof.Rows.callWith_type1 (thn (ha.h pos pins s σ H _ I h) fun us s1 ⟨vs,H1,I1,r1,q1⟩=>?_) hs rfl))
 obtain ⟨a,e,⟨xs,hq⟩,q⟩:=q1
 subst e
 cases r1 with
 | cons r rr =>
  cases rr
  cases r
  obtain ⟨its,rv,pl,hz⟩:=I1.list hq
  refine call_enumerate_list pl.isList fun h' he hit hsz hk=>?_
  refine wpAny_pyIter_enum he ?_
  have I2:Inv X pins σ H1 { s1 with heap:=h' }:=I1.kept (t':=s1.toks) hk
  refine ⟨s1.heap.objs.size+1,[s1.heap.objs.size+1,s1.heap.objs.size],_,_,H1,rfl,I2,Uj a _ _ (Nat.ne_of_gt (Nat.lt_succ_self _)),⟨⟨.none,he⟩,hit⟩,fun b hb=>?_,q⟩
  have hb':s1.heap.objs.size≤b:=by
   rcases List.mem_cons.mp hb with z | z
   ·rw [z];exact Nat.le_succ _
   ·rw [List.mem_singleton.mp z];exact Nat.le_refl _
  exact I1.fpOk hb' (I1.hok.fresh hb')
end
def Uk (K:PySem.W.Frag) (a:Addr) (g:TG) (tb:TS) (D:Ends) (σ:St) (H:Hp):Prop:=(∃ xs,SqL K H a xs)∧∃ W:Nat→Nat→St→Hp→Prop,(∃ m,W 0 m σ H)∧∀ i m σ H,W i m σ H →
 ((Ite K a).stop i H∧D.nx σ H)∨((Ite K a).go i H∧∃ N:St→Hp→Prop,(∀ σ' H',N σ' H'→∃ m',m'<m∧W (i+1) m' σ' H')∧∀ x H',(Ite K a).yld i H x H'→g x σ H' fun σ2 H2=>tb { D with nx:=N,ct:=N,bk:=D.nx } σ2 H2)
def acK (vs:List V) (R:Addr→Prop):Prop:=∃ a,vs=[.ref a]∧R a
theorem R7 (a:Addr) (R:Addr→Prop):acK [.ref a] R=R a:=by
 refine propext ⟨fun ⟨_,e,q⟩=>?_,fun q=>⟨a,rfl,q⟩⟩
 cases e;exact q
theorem R8 (K:PySem.W.Frag) (ta:TA) (g:TG) (tb:TS) (D:Ends) (σ:St) (H:Hp):tFor (aau K ta) g tb D σ H=ta σ H (fun vs H1=>acK vs fun a=>Uk K a g tb D σ H1):=rfl
theorem Uk.go {K:PySem.W.Frag} {a:Addr} {xs:List V} {g:TG} {tb:TS} {D:Ends} {σ:St} {H:Hp} (hS:SqL K H a xs) (Pv:Nat→St→Hp→Prop) (h0:Pv 0 σ H) (hl:∀ i σ H2,i≤xs.length→Pv i σ H2→∀ o,H a=some o→H2 a=some o)
  (hs:∀ (i:Nat) (x:V) (p:Addr) (σ:St) (H:Hp) (N:St→Hp→Prop),xs[i]? = some x→Pv i σ H→H p=none→(∀ σ' H',Pv (i+1) σ' H'→N σ' H')→g (.ref p) σ (upd H p (.tup [.int (i:Int),x])) fun σ2 H2=>tb { D with nx:=N,ct:=N,bk:=D.nx } σ2 H2) (hd:∀ σ H,Pv xs.length σ H→D.nx σ H):Uk K a g tb D σ H:=by
 refine ⟨⟨xs,hS⟩,fun i m σ H2=>m=xs.length - i∧i≤xs.length∧Pv i σ H2,⟨xs.length,by simp,Nat.zero_le _,h0⟩,?_⟩
 rintro i m σ H2 ⟨rfl,hi,p⟩
 have q:=Er (hl i σ H2 hi p) hS
 by_cases hlt:i<xs.length
 ·refine .inr ⟨⟨xs,xs[i],q,by simp [hlt]⟩,Pv (i+1),fun σ' H' p'=>⟨xs.length - (i+1),by omega,rfl,hlt,p'⟩,fun v H' y=>?_⟩
  obtain ⟨t,x,ht,rfl,rfl,y⟩:=y
  exact hs i x t σ H2 _ (y xs q) p ht fun _ _ z=>z
 ·have e:i=xs.length:=by omega
  subst e
  exact .inl ⟨⟨xs,q,Nat.le_refl _⟩,hd σ H2 p⟩
section
variable {X:Cx} {K:PySem.W.Frag}
structure QGs (X:Cx) (ts:List Expr) (t:U9):Prop where h:PGs X ts t
theorem J9:QGs X [] aaW:=⟨YL⟩
theorem qQ {e:Expr} {es:List Expr} {t:TG} {u:U9} (h1:QG X e t) (h2:QGs X es u) (hs:(assignEach (e::es) X.env).map (·.2)=assign e X.env::(assignEach es X.env).map (·.2):=by rfl):QGs X (e::es) (Vm t u):=⟨Vn h1.h h2.h hs⟩
theorem Ph {es:List Expr} {k:Nat} {t:U9} {n:Nat} {pos:Pos} (hK:X.K=K) (hc:X.calm=true) (h:QGs X es t) (hn:(assignEach es X.env).length=n:=by rfl) (hst:(assignEach es X.env).findIdx? (·.1)=none:=by rfl):QG X (.Tuple es k pos) (aaX K n t):=by
 subst hK;exact ⟨aaY hc h.h hn hst⟩
theorem R9 (n:Nat) (t:U9) (p:Addr) (σ:St) (H:Hp) (Q:St→Hp→Prop):aaX K n t (.ref p) σ H Q=∃ xs,SqT K H p xs∧xs.length=n∧t xs σ H Q:=by
 refine propext ⟨fun ⟨_,xs,e,h⟩=>?_,fun ⟨xs,h⟩=>⟨p,xs,rfl,h⟩⟩
 cases e;exact ⟨xs,h⟩
theorem Sd (σ:St) (H:Hp) (Q:St→Hp→Prop):aaW [] σ H Q=Q σ H:=propext ⟨fun h=>h.2,fun h=>⟨rfl,h⟩⟩
theorem Mt (t:TG) (u:U9) (v:V) (r:List V) (σ:St) (H:Hp) (Q:St→Hp→Prop):Vm t u (v::r) σ H Q=t v σ H fun σ' H'=>u r σ' H' Q:=by
 refine propext ⟨fun ⟨_,_,e,h⟩=>?_,fun h=>⟨v,r,rfl,h⟩⟩
 cases e;exact h
theorem abz {i:Nat} {x:Str} {e:Expr} {te:TE} {op:Operator} {ti:Vl} {pos' pos:Pos} (hN:X.N.Nodup) (hi:X.N[i]? = some x) (hx:Loc X.env.scope x) (he:QE X e te) (ho:PIp X op ti) (hf:X.fn x=true∨X.env.scope.names.lookup x=some .local:=by first | exact .inl rfl | exact .inr rfl | assumption) :
  QS X (.AugAssign (.Name x pos') op e pos) (Vp i te ti):=⟨aa1 hN hi hx he.h ho hf⟩
theorem Sg (te:TE) (ti:Vl) (v:V) (r:St) (D:Ends) (H:Hp):Vp 0 te ti D (some v::r) H=te (some v::r) H fun y H1=>ti v y H1 fun z H2=>D.nx (some z::r) H2:=by
 unfold Vp
 refine propext ⟨fun ⟨_,e,h⟩=>?_,fun h=>⟨v,rfl,h⟩⟩
 cases e;exact h
theorem W2 (i:Nat) (te:TE) (ti:Vl) (D:Ends) (σ:St) (H:Hp):Vp i te ti D σ H=tVar i σ H fun v _=>te σ H fun y H1=>ti v y H1 fun z H2=>D.nx (σ.set i (some z)) H2:=rfl
theorem W3 (f:Int→Int→Int) (i j:Int) (H:Hp) (Q:VK):ipI f (.int i) (.int j) H Q=Q (.int (f i j)) H:=by
 refine propext ⟨fun ⟨_,_,e1,e2,q⟩=>?_,fun q=>⟨i,j,rfl,rfl,q⟩⟩
 cases e1;cases e2;exact q
theorem Et {o i e:Expr} {to ti te:TE} {Hs:V→V→Hp→VK→Prop} {YF:Vl} {Ht:JQ} {op:Operator} {tpos pos:Pos} (ho:QE X o to) (hi:QE X i ti) (hg:YM X Hs) (he:QE X e te) (hp:PIp X op YF) (hs:Vk X Ht)
  (ha:∀ ov iv new,augStore i ov iv new=(do holding [new,ov,iv] (setItem ov iv new);release [new,ov,iv] [];pure .next):=by intros;rfl):QS X (.AugAssign (.Subscript o i tpos) op e pos) (Vq to ti te Hs YF Ht):=⟨YQ ho.h hi.h hg he.h hp hs ha⟩
theorem Sh (to ti te:TE) (Hs:V→V→Hp→VK→Prop) (YF:Vl) (Ht:JQ) (D:Ends) (σ:St) (H:Hp):Vq to ti te Hs YF Ht D σ H=to σ H fun o H1=>ti σ H1 fun i H2=>Hs o i H2 fun x H3=>te σ H3 fun y H4=>YF x y H4 fun z H5=>Ht o i z H5 fun H6=>D.nx σ H6:=rfl
end
end L2
namespace L2
open PySem PySem.Spec PyProof.Rows
section
variable {X:Cx} {K:PySem.W.Frag}
theorem W4:YM X (rIxL X.K):=by
 intro pins s σ H x y v u Q I rx ry h
 obtain ⟨p,xs,i,z,rfl,rfl,hq,he,q⟩:=h
 cases rx
 obtain ⟨t,rfl⟩:=ry
 obtain ⟨its,r,pl,hz⟩:=I.list hq
 obtain ⟨j,h1,h2,h3,h4,h5⟩:=atI_get he
 obtain ⟨w,ew,rw'⟩:=r.get h2
 have hl:=r.length
 have hn:=line63
 have fin:EP X pins σ Q w s:=⟨z,H,I,rw',q⟩
 by_cases h0:0≤i
 ·have hj:i.toNat=j:=by
   rw [seqIndex_of h0 h5] at h1
   exact Option.some.inj h1
  exact wpAny_getItem_list pl.isList h0 (by omega) (by rw [hj];simpa using ew) fin
 ·have hj:(i+(its.toArray.size:Int)).toNat=j:=by
   rw [seqIndex_neg (by omega) h4] at h1
   rw [List.size_toArray,←hl]
   exact Option.some.inj h1
  exact wpAny_getItem_list_neg pl.isList (by omega) (by rw [List.size_toArray] <;> omega) (by omega) (by rw [hj];simpa using ew) fin
theorem wF (hK:X.K=K):YM X (rIxL K):=by subst hK;exact W4
theorem Sq (p:Addr) (i:Int) (H:Hp) (Q:VK):rIxL K (.ref p) (.int i) H Q=∃ xs,SqL K H p xs∧∃ v,atI xs i=some v∧Q v H:=by
 refine propext ⟨fun h=>?_,fun h=>?_⟩
 ·obtain ⟨_,xs,_,v,e1,e2,h1,h2,q⟩:=h
  cases e1;cases e2
  exact ⟨xs,h1,v,h2,q⟩
 ·obtain ⟨xs,h1,v,h2,q⟩:=h
  exact ⟨p,xs,i,v,rfl,rfl,h1,h2,q⟩
def acL:R2:=fun x y H Q=>y=.non∧Q (.bl (decide (x=.non))) H
def aav:R2:=fun x y H Q=>y=.non∧Q (.bl (!decide (x=.non))) H
theorem gA:OpR X (compareOp .Is) acL:=aa3
theorem W5:OpR X (compareOp .IsNot) aav:=YS
theorem Ss (x:V) (H:Hp) (Q:VK):acL x .non H Q=Q (.bl (decide (x=.non))) H:=propext ⟨fun h=>h.2,fun h=>⟨rfl,h⟩⟩
theorem Mu (x:V) (H:Hp) (Q:VK):aav x .non H Q=Q (.bl (!decide (x=.non))) H:=propext ⟨fun h=>h.2,fun h=>⟨rfl,h⟩⟩
theorem Jj (i:Int):decide (V.int i=V.non)=false:=by simp
theorem Jk:decide (V.non=V.non)=true:=by simp
theorem Jl (a:Addr):decide (V.ref a=V.non)=false:=by simp
def acM (K:PySem.W.Frag):V→Option Int→Option Int→Hp→VK→Prop:=fun x lo hi H Q=>YZ K x lo hi H Q∨acu K x lo hi H Q
theorem Ka (hK:X.K=K):SlR X (acM K):=by
 subst hK
 intro pins s σ H x v vl vu lo hi sl Q I rx hs pl pu h
 rcases h with h | h
 ·exact Q5 pins s σ H x v vl vu lo hi sl Q I rx hs pl pu h
 ·exact aa7 pins s σ H x v vl vu lo hi sl Q I rx hs pl pu h
theorem Eu {a:Addr} {xs:List V} {lo hi:Option Int} {H:Hp} {Q:VK} (hS:bQ K H a xs) (hp:¬ (HT.jx xs.length 0 lo=0∧HT.jx xs.length xs.length hi=xs.length))
  (q:∀ p H',H p=none→bQ K H' p (uU xs lo hi)→Same H H'→Q (.ref p) H'):acM K (.ref a) lo hi H Q:=by
 rcases hS with h | h
 ·exact .inl ⟨a,xs,rfl,h,fun p hp=>q p _ hp (.inl (SqL.of upd_same)) (Same.new hp)⟩
 ·exact .inr ⟨a,xs,rfl,h,hp,fun p hp=>q p _ hp (.inr (SqT.of upd_same)) (Same.new hp)⟩
end
section
variable {prog:Program} {w:World} {A:Around} {s:Shared} {R:Result→Shared→Prop}
theorem Hw {elt target iter Ov:Expr} {scope:Scope} {pos:Pos} {it acc:Value} {env:Env} (I:Nat→Shared→Prop)
  (turn:∀ n s,I n s→wpAny (model prog w) A (pyNext it) (fun r s₁=>match r with
   | none=>R (.ok .next) s₁
   | some v=>wpAny (model prog w) A (letOwnedTupleGo target it v) (fun _ s₁'=>wpAny (model prog w) A (assign target env v) (fun _ s₂=>wpAny (model prog w) A (isTrue Ov env (eval Ov env)) (fun ok s₂'=>if ok=true then wpAny (model prog w) A (eval elt env) (fun x s₃ =>
     wpAny (model prog w) A (call (.builtin "list.append") [acc,x]) (fun _ s₄=>∃ m,m<n∧I m s₄) (fun _ _=>False) s₃)
     (fun _ _=>False) s₂' else ∃ m,m<n∧I m s₂') (fun _ _=>False) s₂) (fun _ _=>False) s₁') (fun _ _=>False) s₁) (fun _ _=>False) s)
  (n:Nat) (h:I n s):codeAny (model prog w) A (.compLoop (.ListComp elt [⟨target,iter,[Ov],0⟩] scope pos) 0 it acc env) R s:=by
 refine codeAny_loop rfl I (fun n s hI=>?_) n h
 show wpAny _ _ ((compTurn (.ListComp elt [⟨target,iter,[Ov],0⟩] scope pos) 0 it acc env).onRaise (fun x=>do noteFrame x env;theTreesLotGoes x)) _ _ s
 refine wpAny_noted ?_
 rw [compTurn_list]
 refine wpAny_bind (wpAny_standAt (wpAny_bind (wpAny_mono (turn n s hI) (fun r s₁ h₁=>?_) fun _ _ h'=>h'.elim)))
 cases r with
 | none=>exact wpAny_pure h₁
 | some v =>
  refine wpAny_bind (wpAny_mono h₁ (fun _ s₁' h₁'=>?_) fun _ _ h'=>h'.elim)
  refine wpAny_bind (wpAny_mono h₁' (fun _ s₂ h₂=>wpAny_bind (wpAny_tests_one (wpAny_mono h₂ (fun ok s₃ h₃=>?_) fun _ _ h'=>h'.elim))) fun _ _ h'=>h'.elim)
  cases ok with
  | false=>exact wpAny_pure ⟨rfl,h₃⟩
  | true=>exact wpAny_bind (wpAny_bind (wpAny_mono h₃ (fun x s₃ h₃=>wpAny_bind (wpAny_mono h₃
   (fun _ s₄ h₄=>wpAny_pure (wpAny_pure ⟨rfl,h₄⟩)) fun _ _ h'=>h'.elim)) fun _ _ h'=>h'.elim))
end
def abA (wi:TI) (tt:TT) (te:TE):TE:=fun σ H Q=>wi σ H fun J H1=>∀ D,H1 D=none→∃ W:Nat→Nat→Hp→Prop,(∃ m,W 0 m (upd H1 D (.lst [])))∧∀ i m H2,W i m H2 →
 (J.stop i H2∧Q (.ref D) H2)∨(J.go i H2∧∀ x H',J.yld i H2 x H'→tt (some x::σ) H' fun b H3=>if b=true then te (some x::σ) H3 fun y H4=>∃ ys,H4 D=some (.lst ys)∧ys.length<sizeLine∧∃ m',m'<m∧W (i+1) m' (upd H4 D (.lst (ys++[y]))) else ∃ m',m'<m∧W (i+1) m' H3)
section
variable {X:Cx} {scope:Scope} {x:Str} {elt iter Ov:Expr} {wi:TI} {te:TE} {tt:TT} {px pos:Pos}
theorem Ul (S:cu X scope x) (hc:X.calm=true) {pins:List (Addr×Obj)} {σ:St} {H:Hp} {s:Shared} {it:Addr} {fp:List Addr} {tn:Nat→Heap→Prop} {J:It} {Q:VK} {RR:Value→Addr→Result→Shared→Prop} {E:Value→Shared→Prop}
  (ht:∀ C s H fp,PT (X.blk scope x C s H fp) Ov tt) (he:∀ C s H fp,PE (X.blk scope x C s H fp) elt te) (hg:∀ C s H fp,PG (X.blk scope x C s H fp) (.Name x px) (gName 0))
  (I:Inv X pins σ H s) (T:Turn X.prog X.w X.K (.Name x px) J fp it tn) (st:tn 0 s.heap) (hf:∀ b∈fp,FpOk X pins H b)
  (q:∀ D,H D=none→∃ W:Nat→Nat→Hp→Prop,(∃ m,W 0 m (upd H D (.lst [])))∧∀ i m H2,W i m H2 →
   (J.stop i H2∧Q (.ref D) H2)∨(J.go i H2∧∀ x H',J.yld i H2 x H'→tt (some x::σ) H' fun b H3=>if b=true then te (some x::σ) H3 fun y H4=>∃ ys,H4 D=some (.lst ys)∧ys.length<sizeLine∧∃ m',m'<m∧W (i+1) m' (upd H4 D (.lst (ys++[y]))) else ∃ m',m'<m∧W (i+1) m' H3))
  (hRR:∀ (D C:Addr) (s':Shared) (H':Hp) (m':Str→Option Value),Q (.ref D) H'→Inv X pins σ H' s'→s'.heap.Ns C m'→H' C=none→s.heap.objs.size≤C→RR (.ref D) C (.ok .next) s') :
  wpAny (model X.prog X.w) X.A (newList []) (fun acc s₃=>wpAny (model X.prog X.w) X.A (newFunctionEnv scope X.env.globals (Dq scope X.env) [] X.env.qual none .none (some X.env)) (fun cenv s₄ =>
   codeAny (model X.prog X.w) X.A (.compStart (.ListComp elt [⟨.Name x px,iter,[Ov],0⟩] scope pos) 0 (.ref it) acc { cenv with scope:=relabel scope X.env }) (RR acc cenv.locals) s₄) E s₃) E s:=by
 have hcell:∀ y∈scope.names,y.2≠.cell:=fun y hy z=>by
  have:=List.all_eq_true.mp S.Pb y hy
  rw [z] at this
  simp at this
 refine wpAny_newObj_type (wpAny_newFunctionEnv hcell (by intro y hy;simp at hy) (fun h₁ hns₁ hsb₁=>?_) S.kind)
 dsimp only at hns₁ hsb₁ ⊢
 generalize hH2:s.heap.push { cls:=.type "list",dict:=none,data:=.seq ([]:List Value).toArray }=G2 at hns₁ hsb₁ ⊢
 have hC:G2.objs.size=s.heap.objs.size+1:=by rw [←hH2,Heap.size_push]
 have hDC:s.heap.objs.size≠G2.objs.size:=by rw [hC];exact Nat.ne_of_lt (Nat.lt_succ_self _)
 have hCle:s.heap.objs.size≤G2.objs.size:=by rw [hC];exact Nat.le_succ _
 have below:∀ b,b<s.heap.objs.size→b≠G2.objs.size∧b≠s.heap.objs.size:=fun b hb=>⟨by rw [hC];exact Nat.ne_of_lt (Nat.lt_succ_of_lt hb),Nat.ne_of_lt hb⟩
 have old:∀ b o,s.heap.get? b=some o→h₁.get? b=some o:=fun b o e=>hsb₁.extBut b o (below b (Heap.lt_size e)).1 (Heap.get?_push_of_some _ (hH2 ▸ Heap.get?_push_of_some _ e))
 have hacc:h₁.get? s.heap.objs.size=some { cls:=.type "list",dict:=none,data:=.seq ([]:List Value).toArray }:=hsb₁.extBut _ _ hDC (Heap.get?_push_of_some _ (hH2 ▸ Heap.get?_push_size _ rfl))
 have hlt:∀ b∈fp,b<s.heap.objs.size:=fun b hb=>by
  obtain ⟨o,ho,_⟩:=T.obj 0 _ st b hb
  exact Heap.lt_size ho
 have hD:H s.heap.objs.size=none:=I.hok.fresh (Nat.le_refl _)
 have hCn:upd H s.heap.objs.size (.lst []) G2.objs.size=none:=by rw [upd_ne (Ne.symm hDC)];exact I.hok.fresh hCle
 have I4:Inv (X.blk scope x G2.objs.size s H fp) [] (none::σ) (upd H s.heap.objs.size (.lst [])) { s with heap:=h₁,toks:=s.toks+([]:List (Str×Value)).length } :=
  Jd S I hCle hf hlt old (Un.laid old (Nat.le_refl _) hD) (I.hok.laid old (Nat.le_refl _) ⟨Nat.zero_le _,[],0,.nil,hacc⟩) hns₁ hCn
 obtain ⟨W,⟨m0,w0⟩,turn⟩:=q s.heap.objs.size hD
 have loop:codeAny (model X.prog X.w) X.A (.compLoop (.ListComp elt [⟨.Name x px,iter,[Ov],0⟩] scope pos) 0 (.ref it) (.ref s.heap.objs.size) (compEnvC scope (Dq scope X.env) G2.objs.size X.env))
   (RR (.ref s.heap.objs.size) G2.objs.size) { s with heap:=h₁,toks:=s.toks+([]:List (Str×Value)).length }:=by
  have fb:∀ {H':Hp},(∀ b∈fp,H' b=none)→∀ b∈fp,FpOk (X.blk scope x G2.objs.size s H fp) [] H' b:=fun hn b hb=>by
   refine ⟨hn b hb,((xV (C:=G2.objs.size) S I hCle hf hlt).exf b hb).1,fun hz=>?_,.inl hb,((xV (C:=G2.objs.size) S I hCle hf hlt).exf b hb).2 ,fun p hp=>absurd (show p∈([]:List (Addr×Obj)) from hp) (by simp)⟩
   exact (xV (C:=G2.objs.size) S I hCle hf hlt).exfs b hb hz
  refine Hw (fun n s'=>∃ i o H',Inv (X.blk scope x G2.objs.size s H fp) [] (o::σ) H' s'∧tn i s'.heap∧(∀ b∈fp,H' b=none)∧W i n H') ?_ m0
   ⟨0,none,_,I4,T.keep 0 _ _ st fun b hb o e=>old b o e,fun b hb=>?_,w0⟩
  ·rintro n s3 ⟨i,o,H3,I3,st3,fr3,w3⟩
   rcases turn i n H3 w3 with ⟨stop,qn⟩ | ⟨go,step⟩
   ·refine thn (T.done (X.blk scope x G2.objs.size s H fp) rfl rfl rfl hc i [] s3 (o::σ) H3 (fun _ _=>False) I3 (fb fr3) st3 stop) fun r s4 ⟨hr,Ug⟩=>?_
    subst hr
    obtain ⟨m',hm',_⟩:=Ug.loc
    refine hRR _ _ s4 H3 m' qn (I.call' (ch:=fp) Ug.os Ug.base Ug.hok Ug.bare fun b hb=>?_) hm' Ug.free hCle
    obtain ⟨_,f1,f2,f3,f4,f5⟩:=hf b hb
    exact ⟨f3,f1,f4,f5⟩
   ·refine thn (T.item (X.blk scope x G2.objs.size s H fp) rfl rfl rfl hc i [] s3 (o::σ) H3 (fun _ _=>False) I3 (fb fr3) st3 go) fun r s4 ⟨u,hr,h4⟩=>?_
    subst hr
    refine thn h4 fun _ s5 ⟨xv,H5,I5,r5,y5,st5,fr5⟩=>?_
    have I5':=I5.pinned (fb fr5) (T.obj _ _ st5)
    refine thn (hg _ _ _ _ _ s5 (o::σ) H5 xv u (fun σ' H'=>σ' = some xv::σ∧H' = H5) I5' r5 ⟨rfl,rfl⟩) fun _ s6 ⟨σ6,H6,I6,e6,e6'⟩=>?_
    subst e6 e6'
    have back:∀ {σ8:St} {H8:Hp} {s8:Shared} {m':Nat},Inv (X.blk scope x G2.objs.size s H fp) ([]++pinsAt fp s5.heap) (some xv::σ) H8 s8→m'<n→W (i+1) m' H8→∃ m,m<n∧∃ i o H',Inv (X.blk scope x G2.objs.size s H fp) [] (o::σ) H' s8∧tn i s8.heap∧(∀ b∈fp,H' b=none)∧W i m H':=fun {σ8 H8 s8 m'} I8 hm w7=>by
     refine ⟨m',hm,i+1,_,_,I8.unpinned,T.keep _ _ _ st5 fun b hb ob e=>(I8.pin (b,ob) (List.mem_append_right _ (List.mem_append_right _ (mem_pinsAt hb e)))).1,fun b hb=>?_,w7⟩
     obtain ⟨ob,e,_⟩:=T.obj _ _ st5 b hb
     exact (I8.pin (b,ob) (List.mem_append_right _ (List.mem_append_right _ (mem_pinsAt hb e)))).2.1
    refine thn (ht _ _ _ _ _ s6 _ _ _ I6 (step xv _ y5)) fun bo s6' ⟨H6',I6',q6⟩=>?_
    cases bo with
    | false =>
     obtain ⟨m',hm,w7⟩:=q6
     exact back (σ8:=σ) I6' hm w7
    | true =>
     refine thn (he _ _ _ _ _ s6' _ _ _ I6' q6) fun y s7 ⟨yv,H7,I7,r7,ys,hy,hz,m',hm,w7⟩=>?_
     refine thn (bN _ s7 _ H7 (.ref s.heap.objs.size) [yv] _ [y] (fun _ H'=>H' = upd H7 s.heap.objs.size (.lst (ys++[yv]))) I7 rfl (.cons r7 .nil) ⟨_,ys,yv,rfl,rfl,hy,hz,rfl⟩) fun _ s8 ⟨_,H8,I8,_,e8⟩=>?_
     subst e8
     exact back (σ8:=σ) I8 hm w7
  ·rw [upd_ne (below b (hlt b hb)).2]
   exact (hf b hb).1
 refine codeAny_compStart_list loop ?_
 exact T.self _ 0 _ _ _ (T.keep 0 _ _ st fun b hb o e=>old b o e) loop
end
def LFS (K:PySem.W.Frag) (a:Addr) (tt:TT) (te:TE) (σ:St) (H1:Hp) (Q:VK):Prop :=
 ((∃ xs,SqL K H1 a xs)∧∀ D,H1 D=none→∃ W:Nat→Nat→Hp→Prop,(∃ m,W 0 m (upd H1 D (.lst [])))∧∀ i m H2,W i m H2 →
  ((Itl K a).stop i H2∧Q (.ref D) H2)∨((Itl K a).go i H2∧∀ x H',(Itl K a).yld i H2 x H'→tt (some x::σ) H' fun b H3=>if b=true then te (some x::σ) H3 fun y H4=>∃ ys,H4 D=some (.lst ys)∧ys.length<sizeLine∧∃ m',m'<m∧W (i+1) m' (upd H4 D (.lst (ys++[y]))) else ∃ m',m'<m∧W (i+1) m' H3)) ∨
 ((∃ xs,SqT K H1 a xs)∧∀ D,H1 D=none→∃ W:Nat→Nat→Hp→Prop,(∃ m,W 0 m (upd H1 D (.lst [])))∧∀ i m H2,W i m H2 →
  ((Iv K a).stop i H2∧Q (.ref D) H2)∨((Iv K a).go i H2∧∀ x H',(Iv K a).yld i H2 x H'→tt (some x::σ) H' fun b H3=>if b=true then te (some x::σ) H3 fun y H4=>∃ ys,H4 D=some (.lst ys)∧ys.length<sizeLine∧∃ m',m'<m∧W (i+1) m' (upd H4 D (.lst (ys++[y]))) else ∃ m',m'<m∧W (i+1) m' H3))
theorem W6 (K:PySem.W.Frag) (tl te:TE) (tt:TT) (σ:St) (H:Hp) (Q:VK):abA (iSq K tl) tt te σ H Q=tl σ H fun x H1=>Ja x fun a=>LFS K a tt te σ H1 Q:=rfl
theorem LFS.filterMap {K:PySem.W.Frag} {a:Addr} {tt:TT} {te:TE} {σ:St} {H:Hp} {Q:VK} {xs:List V} (hS:bQ K H a xs) (hlen:xs.length<sizeLine) (f:V→Option V)
  (hs:∀ (i:Nat) (x:V) (H2:Hp) (R:Bool→Hp→Prop),xs[i]? = some x→Same H H2→(R (f x).isSome H2)→tt (some x::σ) H2 R)
  (he:∀ (i:Nat) (x y:V) (H2:Hp) (R:VK),xs[i]? = some x→f x=some y→Same H H2→(∀ H3,Same H2 H3→R y H3)→te (some x::σ) H2 R)
  (hd:∀ D H2,H D=none→H2 D=some (.lst (xs.filterMap f))→Same H H2→Q (.ref D) H2):LFS K a tt te σ H Q:=by
 have W:∀ (D:Addr),H D=none→∀ (J:It),(∀ i H2,Same H H2→xs.length≤i→J.stop i H2)→(∀ i x H2,Same H H2→xs[i]? = some x→J.go i H2)→(∀ i H2 x H',Same H H2→J.yld i H2 x H'→H' = H2∧xs[i]? = some x) →
   ∃ W:Nat→Nat→Hp→Prop,(∃ m,W 0 m (upd H D (.lst [])))∧∀ i m H2,W i m H2 →
    (J.stop i H2∧Q (.ref D) H2)∨(J.go i H2∧∀ x H',J.yld i H2 x H'→tt (some x::σ) H' fun b H3=>if b=true then te (some x::σ) H3 fun y H4=>∃ ys,H4 D=some (.lst ys)∧ys.length<sizeLine∧∃ m',m'<m∧W (i+1) m' (upd H4 D (.lst (ys++[y]))) else ∃ m',m'<m∧W (i+1) m' H3):=by
  intro D hD J j1 j2 j3
  refine ⟨fun i m H2=>m=xs.length - i∧i≤xs.length∧H2 D=some (.lst ((xs.take i).filterMap f))∧Same H H2,⟨xs.length,by simp,Nat.zero_le _,by simp [upd_same],Same.new hD⟩,?_⟩
  rintro i m H2 ⟨rfl,hi,hD2,hsm⟩
  by_cases hlt:i<xs.length
  ·refine .inr ⟨j2 i xs[i] H2 hsm (by simp [hlt]),fun x H' hy=>?_⟩
   obtain ⟨rfl,hx⟩:=j3 i H2 x H' hsm hy
   have htk:(xs.take (i+1)).filterMap f=(xs.take i).filterMap f++(f x).toList:=by
    rw [List.take_add_one,hx,List.filterMap_append]
    cases hf:f x <;> simp [hf]
   refine hs i x _ _ hx hsm ?_
   cases hf:f x with
   | none =>
    rw [hf] at htk
    exact ⟨xs.length - (i+1),by omega,rfl,hlt,by rw [htk];simpa using hD2,hsm⟩
   | some y =>
    rw [hf] at htk
    have hle:((xs.take i).filterMap f).length<sizeLine:=Nat.lt_of_le_of_lt (Nat.le_trans (List.length_filterMap_le _ _) (by rw [List.length_take];omega)) hlen
    refine he i x y _ _ hx hf hsm fun H3 h3=>⟨_,h3 _ _ hD2,hle,xs.length - (i+1),by omega,rfl,hlt,by rw [upd_same,htk];rfl,fun b o e=>?_⟩
    rw [upd_ne (ne_of_none e hD)]
    exact h3 _ _ (hsm _ _ e)
  ·have e:i=xs.length:=by omega
   subst e
   exact .inl ⟨j1 _ _ hsm (Nat.le_refl _),hd D H2 hD (by rw [hD2,List.take_of_length_le (Nat.le_refl _)]) hsm⟩
 rcases hS with h | h
 ·refine .inl ⟨⟨xs,h⟩,fun D hD=>W D hD (Itl K a) (fun i H2 hs hi=>⟨xs,hs.seq h,hi⟩) (fun i x H2 hs hx=>⟨xs,x,hs.seq h,hx⟩) fun i H2 x H' hs hy=>⟨hy.1,hy.2 xs (hs.seq h)⟩⟩
 ·refine .inr ⟨⟨xs,h⟩,fun D hD=>W D hD (Iv K a) (fun i H2 hs hi=>⟨xs,hs.Ar h,hi⟩) (fun i x H2 hs hx=>⟨xs,x,hs.Ar h,hx⟩) fun i H2 x H' hs hy=>⟨hy.1,hy.2 xs (hs.Ar h)⟩⟩
end L2
namespace L2
open PySem PySem.Spec PyProof.Rows
section
variable {X:Cx} {K:PySem.W.Frag}
end
end L2
namespace L2
open PySem PySem.Spec PyProof.Rows
section
variable {X:Cx} {scope:Scope} {x y:Str} {px py pos spos:Pos} {elt iter Ov:Expr} {wi:TI} {te:TE} {tt:TT} {i:Nat}
theorem Um (hN:X.N.Nodup) (hi':X.N[i]? = some y) (hy:X.env.scope.names.lookup y=some .local) (S:cu X scope x) (hc:X.calm=true) (hi:PI X (.Name x px) iter wi) (ht:∀ C s H fp,PT (X.blk scope x C s H fp) Ov tt) (he:∀ C s H fp,PE (X.blk scope x C s H fp) elt te) (hg:∀ C s H fp,PG (X.blk scope x C s H fp) (.Name x px) (gName 0))
  (hsw:swapsWith (.ListComp elt [⟨.Name x px,iter,[Ov],0⟩] scope pos) (some (.Name y py)) spos.line X.env=pure true:=by rfl) (hs:∀ x,foldedSetIterable iter X.env x=pure x:=by intro _;rfl) :
  PS X (.Assign [.Name y py] (.ListComp elt [⟨.Name x px,iter,[Ov],0⟩] scope pos) spos) (tAsg (abA wi tt te) (gName i)):=by
 intro pins s σ H D I h
 have hnames:∀ z∈scope.names,z.2=.local→scope.names.lookup z.1=some .local:=fun z hz hl=>by
  have:=List.all_eq_true.mp S.loc z hz
  rw [hl] at this
  simpa using this
 rw [exec_Assign_Name_used _ _ _ _ hsw]
 refine wpAny_bind (wpAny_standAt (wpAny_bind ?_))
 show wpAny _ X.A (do let _ ←comprehension (.ListComp elt [⟨.Name x px,iter,[Ov],0⟩] scope pos) scope X.env _ (newList []) false (eval iter X.env) (some (assign (.Name y py) X.env))) _ _ s
 refine wpAny_bind (wpAny_mono (wpAny_comprehension_free (use:=some (assign (.Name y py) X.env)) (Q:=fun _ s'=>SP X pins D .next s') rfl hs (xU (S.has I.ok)) S.kind hnames
  (thn (hi pins s σ H _ I h) fun v s1 h1=>thn h1 fun itv s2 h2=>?_)) (fun _ s' hq=>wpAny_pure (wpAny_pure hq)) fun _ _ e=>e)
 obtain ⟨it,fp,tn,J,H2,rfl,I2,T,st2,f2,q2⟩:=h2
 refine Ul S hc (Q:=fun x H1=>gName i x σ H1 D.nx) (RR:=fun acc C=>compPost (model X.prog X.w) X.A X.xe (some (assign (.Name y py) X.env)) (fun _ s'=>SP X pins D .next s') acc C) ht he hg I2 T st2 f2 q2 fun Da C s' H' m' qD I' hm hn hC=>?_
 have neL:C≠X.env.locals:=Nat.ne_of_gt (Nat.lt_of_lt_of_le I2.lt hC)
 have neC:∀ y c,X.env.cells.lookup y=some c→c≠C:=fun y c e z=>by
  obtain ⟨_,o,ho,_⟩:=I2.cell y c e
  exact absurd (Heap.lt_size ho) (by rw [z];exact Nat.not_lt.mpr hC)
 show wpAny _ X.A (assign (.Name y py) X.env (.ref Da)) _ _ _
 refine wpAny_assign_Name (store_ok2 I' hN hi' (.inl hy) (v:=.ref Da) rfl (fun s3 I3 hb3=>?_) (.inr hy))
 obtain ⟨b3,sb3,h3⟩:=hb3
 have b3C:C≠b3:=by
  rcases h3 with z | z
  ·rw [z];exact neL
  ·exact (neC y b3 z).symm
 refine ⟨m',hm.sameBut sb3 b3C,fun h' hs'=>?_⟩
 refine ⟨_,H',I3.turned (it:=C) (t':=s3.toks) (fun b o hb e=>hs'.extBut b o hb e) hn neL (.inr (Nat.le_trans I2.sz hC)) neC (fun p hp z=>?_),qD⟩
 exact absurd (Heap.lt_size (I2.pin p hp).1) (by rw [z];exact Nat.not_lt.mpr hC)
theorem Jm {scope:Scope} {elt iter:Expr} {wi:TI} (hN:X.N.Nodup) (hi':X.N[i]? = some y) (hy:X.env.scope.names.lookup y=some .local) (S:cu X scope x) (hc:X.calm=true) (hi:QI X (.Name x px) iter wi) (ht:∀ C s H fp,QT (X.blk scope x C s H fp) Ov tt) (he:∀ C s H fp,QE (X.blk scope x C s H fp) elt te) (hg:∀ C s H fp,QG (X.blk scope x C s H fp) (.Name x px) (gName 0))
  (hsw:swapsWith (.ListComp elt [⟨.Name x px,iter,[Ov],0⟩] scope pos) (some (.Name y py)) spos.line X.env=pure true:=by rfl) (hs:∀ x,foldedSetIterable iter X.env x=pure x:=by intro _;rfl) :
  QS X (.Assign [.Name y py] (.ListComp elt [⟨.Name x px,iter,[Ov],0⟩] scope pos) spos) (tAsg (abA wi tt te) (gName i)):=⟨Um hN hi' hy S hc hi.h (fun C s H fp=>(ht C s H fp).h) (fun C s H fp=>(he C s H fp).h) (fun C s H fp=>(hg C s H fp).h) hsw hs⟩
end
end L2
namespace My
open PySem L2
def oV:Option Nat→V
 | none=>.non
 | some n=>vI n
def cand (ws:List Nat) (T:List (Option Nat)) (s:Nat):List Nat:=ws.filterMap fun w=>if 0<w∧w≤s then T.getD (s - w) none else none
def nxt (ws:List Nat) (T:List (Option Nat)) (s:Nat):Option Nat:=(cand ws T s).min?.map (· + 1)
def Fx (ws:List Nat):Nat→List (Option Nat)
 | 0=>[some 0]
 | n+1=>Fx ws n++[nxt ws (Fx ws n) (n+1)]
theorem vf (ws:List Nat):∀ n,(Fx ws n).length=n+1
 | 0=>rfl
 | n+1=>by rw [Fx,List.length_append,vf ws n];rfl
theorem abB {l:List Nat} {m:Nat} (h:m∈l) (hm:∀ x∈l,m≤x):l.min? = some m:=List.min?_eq_some_iff.mpr ⟨h,hm⟩
theorem Zg {l:List Nat} {M:Int} (h:M∈l.map fun d:Nat=>(d:Int)) (hm:∀ a,a∈(l.map fun d:Nat=>(d:Int))→M≤a):∃ m:Nat,M=(m:Int)∧l.min? = some m:=by
 obtain ⟨m,h1,rfl⟩:=List.mem_map.mp h
 exact ⟨m,rfl,abB h1 fun x hx=>by have:=hm _ (List.mem_map_of_mem (f:=fun d:Nat=>(d:Int)) hx);omega⟩
theorem getD_at {T:List (Option Nat)} {i:Nat} (h:i<T.length):atI (T.map oV) (i:Int)=some (oV (T.getD i none)) :=
 atI_nat (by rw [List.getElem?_map,List.getElem?_eq_getElem h,List.getD_eq_getElem?_getD,List.getElem?_eq_getElem h];rfl)
end My
namespace L2
open PySem PySem.Spec PyProof.Rows
section
variable {X:Cx} {K:PySem.W.Frag}
end
theorem pU.base {K:PySem.W.Frag} {a:Addr} {xs:List V} {g:TG} {tb:TS} {D:Ends} {σ:St} {H H0:Hp} (hS:bQ K H0 a xs) (Pv:Nat→St→Hp→Prop) (h0:Pv 0 σ H) (hl:∀ i σ H2,i≤xs.length→Pv i σ H2→Same H0 H2)
  (hs:∀ (i:Nat) (x:V) (σ:St) (H:Hp) (N:St→Hp→Prop),xs[i]? = some x→Pv i σ H→(∀ σ' H',Pv (i+1) σ' H'→N σ' H')→g x σ H fun σ2 H2=>tb { D with nx:=N,ct:=N,bk:=D.nx } σ2 H2) (hd:∀ σ H,Pv xs.length σ H→D.nx σ H):pU K a g tb D σ H:=by
 have hH:=hl 0 σ H (Nat.zero_le _) h0
 rcases hS with h | h
 ·exact .inl ⟨⟨xs,hH.seq h⟩,for_list Pv h0 (fun i σ H2 hi p=>(hl i σ H2 hi p).seq h) (fun i x σ H hi p=>hs i x σ H _ hi p fun _ _ q=>q) hd⟩
 ·exact .inr ⟨⟨xs,hH.Ar h⟩,JR Pv h0 (fun i σ H2 hi p=>(hl i σ H2 hi p).Ar h) (fun i x σ H hi p=>hs i x σ H _ hi p fun _ _ q=>q) hd⟩
end L2
namespace My
open PySem L2
def tab (n:Nat) (F:Nat→Nat):List Nat:=(List.range n).map F
theorem c7 (n:Nat) (F:Nat→Nat):(tab n F).length=n:=by unfold tab;rw [List.length_map,List.length_range]
theorem yW {n:Nat} {F:Nat→Nat} {i:Nat} (h:i<n):(tab n F)[i]? = some (F i):=by unfold tab;rw [List.getElem?_map,List.getElem?_range h];rfl
theorem Mv {n:Nat} {F:Nat→Nat} (i:Nat):(tab n F).getD i 0=if i<n then F i else 0:=by
 rw [List.getD_eq_getElem?_getD]
 by_cases h:i<n
 ·rw [yW h,if_pos h];rfl
 ·rw [if_neg h,List.getElem?_eq_none (by rw [c7];omega)];rfl
theorem Ay {n:Nat} {F G:Nat→Nat} (h:∀ s,s<n→F s=G s):tab n F=tab n G:=by
 unfold tab
 exact List.map_congr_left fun s hs=>h s (List.mem_range.mp hs)
theorem cG {n:Nat} {F G:Nat→Nat} (h:∀ s,s<n→F s=G s):some (HO.lst ((tab n F).map vI))=some (HO.lst ((tab n G).map vI)):=by rw [Ay h]
theorem Kc {n:Nat} {F:Nat→Nat} {j v:Nat}:(tab n F).set j v=tab n (fun s=>if s=j then v else F s):=by
 refine List.ext_getElem? fun i=>?_
 rw [List.getElem?_set]
 by_cases hi:i<n
 ·rw [yW hi,yW hi,c7]
  by_cases e:j=i
  ·subst e;rw [if_pos rfl,if_pos hi,if_pos rfl]
  ·rw [if_neg e,if_neg (fun z=>e z.symm)]
 ·rw [List.getElem?_eq_none (l:=tab n F) (by rw [c7];omega),List.getElem?_eq_none (by rw [c7];omega),c7]
  split
  ·rw [if_neg (by omega)]
  ·rfl
theorem Mw (n:Nat):(List.replicate n [V.int 0]).flatten=(tab n (fun _=>0)).map vI:=by
 unfold tab
 rw [List.map_map]
 induction n with
 | zero=>rfl
 | succ n ih=>rw [List.replicate_succ,List.flatten_cons,ih,List.range_succ_eq_map,List.map_cons,List.map_map];rfl
theorem Fy {n:Nat} {F:Nat→Nat} {i:Nat} (h:i<n):atI ((tab n F).map vI) (i:Int)=some (vI (F i)):=atI_nat (by rw [List.getElem?_map,yW h];rfl)
def sh (F:Nat→Nat) (ws:List Nat) (s:Nat):Nat:=(ws.map fun w=>if w≤s then F (s - w) else 0).sum
def Az (T ws:List Nat) (i s:Nat):Nat:=(ws.map fun w=>if w≤s∧s - w<i then T.getD (s - w) 0 else 0).sum
def nq (us:List Nat) (i m s:Nat):Nat:=(us.map fun w=>if s=i+w then m else 0).sum
theorem sum_map_congr {l:List Nat} {f g:Nat→Nat} (h:∀ x∈l,f x=g x):(l.map f).sum=(l.map g).sum:=by rw [List.map_congr_left h]
theorem sum_map_add (l:List Nat) (f g:Nat→Nat):(l.map fun x=>f x+g x).sum=(l.map f).sum+(l.map g).sum:=by
 induction l with
 | nil=>rfl
 | cons x r ih=>simp only [List.map_cons,List.sum_cons,ih];omega
theorem mC (l:List Nat):(l.map fun _=>0).sum=0:=by
 induction l with
 | nil=>rfl
 | cons x r ih=>simp only [List.map_cons,List.sum_cons,ih]
theorem Uo (T ws:List Nat) (s:Nat):Az T ws 0 s=0:=by
 unfold Az
 rw [sum_map_congr (g:=fun _=>0) (fun w _=>if_neg (by omega)),mC]
theorem Jo (T ws:List Nat) (i s:Nat):Az T ws (i+1) s=Az T ws i s+nq ws i (T.getD i 0) s:=by
 unfold Az nq
 rw [←sum_map_add]
 refine sum_map_congr fun w _=>?_
 by_cases h1:s=i+w
 ·subst h1
  rw [if_pos (by omega),if_neg (by omega),if_pos rfl,show i+w - w=i by omega];omega
 ·rw [if_neg h1]
  by_cases h2:w≤s∧s - w<i
  ·rw [if_pos h2,if_pos (by omega)];rfl
  ·rw [if_neg h2,if_neg (by omega)]
theorem Uq (us:List Nat) (i s:Nat):nq us i 0 s=0:=by
 unfold nq
 rw [sum_map_congr (g:=fun _=>0) (fun w _=>by split <;> rfl),mC]
theorem Mx (i m s:Nat):nq [] i m s=0:=rfl
theorem Jp {ws:List Nat} {j w:Nat} (h:ws[j]? = some w) (i m s:Nat):nq (ws.take (j+1)) i m s=nq (ws.take j) i m s+if s=i+w then m else 0:=by
 unfold nq
 rw [List.take_add_one,h,List.map_append,List.sum_append]
 simp
theorem W7 (T ws:List Nat) (s:Nat):Az T ws T.length s=sh (fun i=>T.getD i 0) ws s:=by
 unfold Az sh
 refine sum_map_congr fun w _=>?_
 by_cases h:w≤s
 ·by_cases h2:s - w<T.length
  ·rw [if_pos ⟨h,h2⟩,if_pos h]
  ·rw [if_neg (by omega),if_pos h]
   show 0=T.getD (s - w) 0
   rw [List.getD_eq_getElem?_getD,List.getElem?_eq_none (by omega)];rfl
 ·rw [if_neg (by omega),if_neg h]
theorem Mz {F G:Nat→Nat} {ws:List Nat} {s:Nat} (h:∀ i,i≤s→F i=G i):sh F ws s=sh G ws s:=by
 unfold sh
 refine sum_map_congr fun w _=>?_
 by_cases h1:w≤s
 ·rw [if_pos h1,if_pos h1,h _ (by omega)]
 ·rw [if_neg h1,if_neg h1]
def spF (fs ws:List Nat):Nat→Nat→Nat
 | 0=>fun s=>fs.count s
 | k+1=>sh (spF fs ws k) ws
theorem abC {F:Nat→Nat} {ws:List Nat} {n s:Nat} (hw:∀ x∈ws,x≤50) (hF:∀ i,n≤i→F i=0) (h:n+50≤s):sh F ws s=0:=by
 unfold sh
 rw [sum_map_congr (g:=fun _=>0) (fun w hm=>?_),mC]
 have:=hw w hm
 rw [if_pos (by omega),hF _ (by omega)]
theorem Sv {fs ws:List Nat} (hf:∀ x∈fs,x≤50) (hw:∀ x∈ws,x≤50):∀ k s,50*k+51≤s→spF fs ws k s=0
 | 0,s,h=>by
  show fs.count s=0
  rw [List.count_eq_zero]
  intro z
  have:=hf s z
  omega
 | k+1,s,h=>by
  show sh (spF fs ws k) ws s=0
  exact abC (n:=50*k+51) hw (fun i hi=>Sv hf hw k i hi) (by omega)
theorem abD (fs:List Nat) (s:Nat):sh (fun i=>[1].getD i 0) fs s=fs.count s:=by
 unfold sh
 induction fs with
 | nil=>rfl
 | cons x r ih =>
  rw [List.map_cons,List.sum_cons,ih,List.count_cons]
  by_cases e:x=s
  ·subst e
   rw [if_pos (Nat.le_refl _),Nat.sub_self,beq_self_eq_true,if_pos rfl]
   simp;omega
  ·rw [show (x == s)=false by simpa using e]
   by_cases h:x≤s
   ·obtain ⟨d,hd⟩:∃ d,s - x=d+1:=⟨s - x - 1,by omega⟩
    rw [if_pos h,hd];simp
   ·rw [if_neg h];simp
def spd (ws:List Nat) (len:Nat):Nat→Nat:=spF (if len=1 then ws else ws.tail) ws (len - 1)
end My
namespace My
open PySem L2
def tot (n:Nat) (F:Nat→Nat):Nat:=(tab n F).sum
theorem fu (n:Nat) (F:Nat→Nat):tot (n+1) F=tot n F+F n:=by unfold tot tab;rw [List.range_succ,List.map_append,List.sum_append];simp
theorem iB {n:Nat} {F G:Nat→Nat} (h:∀ s,s<n→F s=G s):tot n F=tot n G:=by unfold tot;rw [Ay h]
theorem Zh (n:Nat) (F G:Nat→Nat):tot n (fun s=>F s+G s)=tot n F+tot n G:=by
 induction n with
 | zero=>rfl
 | succ n ih=>rw [fu,fu,fu,ih];omega
theorem Fz (n:Nat):tot n (fun _=>0)=0:=by
 induction n with
 | zero=>rfl
 | succ n ih=>rw [fu,ih]
theorem adX {l:List Nat} {M:Int} (h:M∈l.map fun d:Nat=>(d:Int)):∃ m:Nat,M=(m:Int)∧m∈l:=by
 obtain ⟨m,h1,rfl⟩:=List.mem_map.mp h
 exact ⟨m,rfl,h1⟩
theorem Zi {l:List Nat} {M:Int} (h:M∈l.map fun d:Nat=>(d:Int)) (hm:∀ a,a∈(l.map fun d:Nat=>(d:Int))→M≤a):∃ m:Nat,M=(m:Int)∧m∈l∧∀ x∈l,m≤x:=by
 obtain ⟨m,rfl,h1⟩:=adX h
 exact ⟨m,rfl,h1,fun x hx=>by have:=hm _ (List.mem_map_of_mem (f:=fun d:Nat=>(d:Int)) hx);omega⟩
end My
namespace My
open PySem L2
def cin (ws:List Nat) (lo m s:Nat):Nat:=tot m (fun i=>if fall ws (lo+i)=s then 1 else 0)
theorem Jq (p q:Nat) (F:Nat→Nat):tot (p+q) F=tot p F+tot q (fun i=>F (p+i)):=by
 induction q with
 | zero=>rfl
 | succ q ih=>rw [←Nat.add_assoc,fu,ih,fu];omega
theorem FJ (ws:List Nat) (lo m s:Nat):cin ws lo (m+1) s=cin ws lo m s+if fall ws (lo+m)=s then 1 else 0:=fu _ _
theorem yX (ws:List Nat) (lo s:Nat):cin ws lo 0 s=0:=rfl
theorem W8 (ws:List Nat):(List.range ws.length).map (wt ws)=ws:=by
 refine List.ext_getElem? fun i=>?_
 rw [List.getElem?_map]
 by_cases h:i<ws.length
 ·rw [List.getElem?_range h,WK h];rfl
 ·rw [List.getElem?_eq_none (by rw [List.length_range];omega),List.getElem?_eq_none (by omega)];rfl
theorem W9 (ws:List Nat) (G:Nat→Nat):tot ws.length (fun d=>G (wt ws d))=(ws.map G).sum:=by
 conv=>rhs;rw [←W8 ws]
 rw [List.map_map];rfl
theorem FN {ws:List Nat} (hb:2≤ws.length) {x d:Nat} (hx:1≤x) (hd:d<ws.length):fall ws (x*ws.length+d)=fall ws x+wt ws d:=by
 have h1:ws.length≤x*ws.length:=Nat.le_mul_of_pos_left _ hx
 rw [RX hb (by omega)]
 have e1:(x*ws.length+d) % ws.length=d:=by rw [Nat.mul_comm,Nat.mul_add_mod,Nat.mod_eq_of_lt hd]
 have e2:(x*ws.length+d) / ws.length=x:=by
  rw [Nat.mul_comm,Nat.mul_add_div (by omega),Nat.div_eq_of_lt hd];rfl
 rw [e1,e2];omega
theorem Sw {ws:List Nat} (hb:2≤ws.length) {lo:Nat} (hl:1≤lo) (s:Nat):∀ m,cin ws (lo*ws.length) (m*ws.length) s=sh (cin ws lo m) ws s
 | 0=>by
  rw [Nat.zero_mul,yX]
  unfold sh
  rw [sum_map_congr (g:=fun _=>0) (fun w _=>by rw [yX];split <;> rfl),mC]
 | m+1=>by
  have ih:=Sw hb hl s m
  have h1:cin ws (lo*ws.length) ((m+1)*ws.length) s=cin ws (lo*ws.length) (m*ws.length) s+(ws.map fun w=>if fall ws (lo+m)+w=s then 1 else 0).sum:=by
   rw [Nat.add_mul,Nat.one_mul]
   unfold cin
   rw [Jq]
   congr 1
   rw [←W9 ws]
   refine iB fun d hd=>?_
   rw [show lo*ws.length+(m*ws.length+d)=(lo+m)*ws.length+d by rw [Nat.add_mul];omega,FN hb (by omega) hd]
  rw [h1,ih]
  unfold sh
  rw [←sum_map_add]
  refine sum_map_congr fun w _=>?_
  by_cases e:w≤s
  ·rw [if_pos e,if_pos e,FJ]
   congr 1
   by_cases e2:fall ws (lo+m)+w=s
   ·rw [if_pos e2,if_pos (by omega)]
   ·rw [if_neg e2,if_neg (by omega)]
  ·rw [if_neg e,if_neg e,if_neg (by omega)]
theorem count_range (ws:List Nat) (s:Nat):ws.count s=tot ws.length (fun d=>if wt ws d=s then 1 else 0):=by
 rw [W9 ws (fun w=>if w=s then 1 else 0)]
 induction ws with
 | nil=>rfl
 | cons x r ih =>
  rw [List.count_cons,ih,List.map_cons,List.sum_cons]
  by_cases e:x=s
  ·rw [e,beq_self_eq_true];simp;omega
  ·rw [show (x == s)=false by simpa using e,if_neg (c:=x=s) e];simp
theorem Xa {ws:List Nat} (hb:2≤ws.length) (s:Nat):cin ws 1 (ws.length - 1) s=ws.tail.count s:=by
 obtain ⟨w0,r,rfl⟩:∃ w0 r,ws=w0::r:=by
  cases ws with
  | nil=>simp at hb
  | cons x r=>exact ⟨x,r,rfl⟩
 rw [List.tail_cons,count_range r,List.length_cons,Nat.add_sub_cancel]
 unfold cin
 refine iB fun d hd=>?_
 rw [yQ (by rw [List.length_cons];omega),Nat.add_comm 1 d]
 rfl
theorem vg {ws:List Nat} (hb:2≤ws.length) (hw:∀ x∈ws,x≤50) {n x:Nat} (hn:1≤n) (h:x<ws.length ^ n):fall ws x≤50*n:=by
 have h1:=yP hw x
 have h2:=Fo hb n x hn h
 omega
end My
namespace L2
open PySem PySem.Spec PyProof.Rows
theorem Xb (j:Int) (H:Hp) (Q:VK):rNe .non (.int j) H Q=Q (.bl true) H:=by
 have e:decide (V.non=V.int j)=false:=by simp
 refine propext ⟨fun ⟨_,q⟩=>by rw [e] at q;exact q,fun q=>⟨rfl,by rw [e];exact q⟩⟩
end L2
namespace My
open PySem L2
def tb (ws:List Nat) (s:Nat):Option Nat:=(Fx ws s).getD s none
end My
namespace My
open PySem L2
end My
namespace My
open PySem L2
end My
namespace L2
open PySem PySem.Spec PyProof.Rows
section
variable {X:Cx} {K:PySem.W.Frag}
end
end L2
namespace My
open PySem L2
end My
namespace L2
open PySem PySem.Spec PyProof.Rows
def MethAt (K:PySem.W.Frag) (c m qual:Str) (st:Stmt) (ps:List Str):Prop:=∃ f fd,Fun K m qual st f fd∧Meth K (mq K c) m f∧Binds K fd ps []
def xW (K:PySem.W.Frag) (c qual:Str) (st:Stmt) (ps:List Str):Prop:=∃ f fd,Fun K "__init__" qual st f fd∧Mk K (mq K c) f∧Binds K fd ps []
def lU (P:Program) (w:World) (K:PySem.W.Frag) (mg:Str→Option Value) (base:Heap) (CX:CXT) (k:Nat) (c m:Str) (ps:List Str) (sp:Sp):Prop :=
 ∃ f fd,FnOk P w K mg base CX k f fd ps sp∧Meth K (mq K c) m f∧Binds K fd ps []
def MF (P:Program) (w:World) (K:PySem.W.Frag) (mg:Str→Option Value) (base:Heap) (CX:CXT) (k:Nat) (c:Str) (ps:List Str) (sp:Sp):Prop :=
 ∃ f fd,FnOk P w K mg base CX k f fd ps sp∧Mk K (mq K c) f∧Binds K fd ps []
section
variable {P:Program} {w:World} {K:PySem.W.Frag} {mg:Str→Option Value} {base:Heap} {c m qual:Str} {st:Stmt} {N ps:List Str} {k:Nat} {sp:Sp} {sc:Scope} {bd:List Stmt}
theorem MethAt.aZ (hsc:defScope st=sc) (hbd:defBody st=bd) (F:MethAt K c m qual st ps) (S:FnScope N ps sc) (len:∀ vs H Q E,sp vs H Q E→vs.length=ps.length)
  (hbody:∀ (f:Addr) (cdv:Value) (A:Around) (outer:List Env) (s:Shared) (H:Hp) (vs:List V) (Q:VK) (E:XK),Room k (A.deeper (envOfC qual sc s.heap.objs.size f cdv))→sp vs H Q E →
   ∃ t,QB (cxOf CX0 P w K mg base N qual sc f cdv A outer s H E).nox bd t∧t { nx:=fun _ H'=>Q .non H',rt:=Q } (L2.start N vs) H):lU P w K mg base CX0 (k+1) c m ps sp:=by
 obtain ⟨f,fd,F,hm,hb⟩:=F
 exact ⟨f,fd,F.okQ hsc hbd S len (hbody f),hm,hb⟩
theorem xW.aZ (hsc:defScope st=sc) (hbd:defBody st=bd) (F:xW K c qual st ps) (S:FnScope N ps sc) (len:∀ vs H Q E,sp vs H Q E→vs.length=ps.length)
  (hbody:∀ (f:Addr) (cdv:Value) (A:Around) (outer:List Env) (s:Shared) (H:Hp) (vs:List V) (Q:VK) (E:XK),Room k (A.deeper (envOfC qual sc s.heap.objs.size f cdv))→sp vs H Q E →
   ∃ t,QB (cxOf CX0 P w K mg base N qual sc f cdv A outer s H E).nox bd t∧t { nx:=fun _ H'=>Q .non H',rt:=Q } (L2.start N vs) H):MF P w K mg base CX0 (k+1) c ps sp:=by
 obtain ⟨f,fd,F,hm,hb⟩:=F
 exact ⟨f,fd,F.okQ hsc hbd S len (hbody f),hm,hb⟩
theorem Zj {h:Heap} {f C:Addr} {oc:Value} {od an:Option Addr} {osl:Array (Option Value)} {kV doc pm cdv ct:Value} (KX:K.In h) (aC:PySem.W.nsIn K mainGlobals c=some (some (.ref C)))
  (a:PySem.W.findIn K (.ref C) m=some (some (.ref f))) (i:PySem.W.isFn K (.ref f)=true) (l:K.lookup f=some ⟨oc,od,.func (PySem.W.fnOf m qual (defArgs st) (defBody st) (defScope st) .none kV doc pm an cdv ct),osl⟩) (cd:PySem.W.codeIn K cdv qual=true) (kp:PySem.W.keepIn K (.ref f)=true)
  (hb:∀ (kV doc pm:Value) (an:Option Addr) (cdv ct:Value) (us:List Value),us.length=ps.length→bindArgs (PySem.W.fnOf m qual (defArgs st) (defBody st) (defScope st) .none kV doc pm an cdv ct) ⟨us,[]⟩=pure (ps.zip us)):MethAt K c m qual st ps:=by
 refine ⟨f,_,fun_mk l cd kp,?_,(fun_mk l cd kp).binds hb⟩
 rw [Fw aC]
 exact ⟨a,i,kp⟩
theorem Zk {h:Heap} {f C:Addr} {oc:Value} {od an:Option Addr} {osl:Array (Option Value)} {kV doc pm cdv ct:Value} (KX:K.In h) (aC:PySem.W.nsIn K mainGlobals c=some (some (.ref C)))
  (a:PySem.W.findIn K (.ref C) "__init__" = some (some (.ref f))) (i:PySem.W.isFn K (.ref f)=true) (l:K.lookup f=some ⟨oc,od,.func (PySem.W.fnOf "__init__" qual (defArgs st) (defBody st) (defScope st) .none kV doc pm an cdv ct),osl⟩) (cd:PySem.W.codeIn K cdv qual=true) (kp:PySem.W.keepIn K (.ref f)=true)
  (mk:PySem.W.makesIn K C=true) (kc:PySem.W.keepIn K (.ref C)=true)
  (hb:∀ (kV doc pm:Value) (an:Option Addr) (cdv ct:Value) (us:List Value),us.length=ps.length→bindArgs (PySem.W.fnOf "__init__" qual (defArgs st) (defBody st) (defScope st) .none kV doc pm an cdv ct) ⟨us,[]⟩=pure (ps.zip us)):xW K c qual st ps:=by
 refine ⟨f,_,fun_mk l cd kp,?_,(fun_mk l cd kp).binds hb⟩
 rw [Fw aC]
 exact ⟨mk,a,i,kc⟩
end
structure ClsAt (K:PySem.W.Frag) (mg:Str→Option Value) (c:Str):Prop where
 cl:Cls K (mq K c)
 mg:mg c=some (.ref (mq K c))
theorem MN {K:PySem.W.Frag} {mg:Str→Option Value} {h:Heap} {c:Str} {C:Addr} (KX:K.In h) (G:h.Ns mainGlobals mg) (aC:PySem.W.nsIn K mainGlobals c=some (some (.ref C))) (pg:PySem.W.plainGet K C Str.empty=true) (hd:PySem.W.hasDictIn K C=true) (po:PySem.W.plainOver K C=true)
  (sa:PySem.W.findIn K (.ref C) "__setattr__" = some (some (.builtin "object.__setattr__"))):ClsAt K mg c:=by
 refine ⟨?_,?_⟩
 ·rw [Fw aC];exact ⟨pg,hd,po,sa⟩
 ·rw [Fw aC];exact PySem.W.mg_of KX G aC
def oW (K:PySem.W.Frag) (c f:Str):Prop:=NoAttr K (mq K c) f
theorem Kd {K:PySem.W.Frag} {c f:Str} {C:Addr} (aC:PySem.W.nsIn K mainGlobals c=some (some (.ref C))) (n:PySem.W.findIn K (.ref C) f=some none):oW K c f:=by
 unfold oW;rw [Fw aC];exact n
section
variable {X:Cx} {K:PySem.W.Frag} {o e value:Expr} {es:List Expr} {ta tv td ty tx:TE} {t:TA} {f m c x:Str} {pos pos' apos cpos p:Pos}
theorem dj (hK:X.K=K) (he:QE X e ta) (hb:attributeBase e f X.env (eval e X.env)=eval e X.env:=by rfl):QE X (.Attribute e f pos) (tFld K ta f):=by
 subst hK;exact ⟨pe_fld he.h hb⟩
theorem Pj (hK:X.K=K) (ha:QE X o ta) (hv:QE X value tv) (hs:swapsWith value (some (.Attribute o f pos')) pos.line X.env=pure false:=by rfl):QS X (.Assign [.Attribute o f pos'] value pos) (sFld K ta tv f):=by
 subst hK;exact ⟨ps_fld ha.h hv.h hs⟩
theorem bR {CX:CXT} {k:Nat} {ps:List Str} {sp:Sp} {E:XK} {pl:Sem Bool} (hK:X.K=K) (ca:ClsAt K X.mg c) (g:lU X.prog X.w K X.mg X.base CX k c m ps sp) (hr:Room k X.A) (hx:Passes CX X E) (he:QE X o ta) (ha:QA X (e::es) t)
  (hst:starEach (e::es) X.env=(false,eval e X.env)::starEach es X.env:=by rfl) (hpl:(backTo pos (starEach es X.env)).any (·.1)=false:=by rfl)
  (ht:eval (.Call (.Attribute o m apos) (e::es) [] pos) X.env=(do
   let ov ←eval o X.env
   standAt apos.atName
   let (f,first) ←holding [ov] (getMethod ov m pl)
   callWith pos f first (backTo pos (starEach (e::es) X.env)) (backToKw pos (keywordEach [] X.env))):=by rfl) :
  QE X (.Call (.Attribute o m apos) (e::es) [] pos) (tMeth (mq K c) m sp [] E ta t):=by
 subst hK
 obtain ⟨f,fd,F,hm,hb⟩:=g
 exact ⟨pe_meth (pl:=pl) he.h ca.cl hm F hr hb .nil hx ha.h hst hpl ht⟩
theorem Xc {CX:CXT} {k:Nat} {ps:List Str} {sp:Sp} {E:XK} {pl:Sem Bool} (hK:X.K=K) (ca:ClsAt K X.mg c) (g:lU X.prog X.w K X.mg X.base CX k c m ps sp) (hr:Room k X.A) (hx:Passes CX X E) (he:QE X o ta)
  (ht:eval (.Call (.Attribute o m apos) [] [] pos) X.env=(do
   let ov ←eval o X.env
   standAt apos.atName
   let (f,first) ←holding [ov] (getMethod ov m pl)
   callWith pos f first (backTo pos (starEach [] X.env)) (backToKw pos (keywordEach [] X.env))):=by rfl) :
  QE X (.Call (.Attribute o m apos) [] [] pos) (tMeth (mq K c) m sp [] E ta tNil):=by
 subst hK
 obtain ⟨f,fd,F,hm,hb⟩:=g
 exact ⟨Vs (pl:=pl) he.h ca.cl hm F hr hb .nil hx ht⟩
theorem Zm {CX:CXT} {k:Nat} {ps:List Str} {sp:Sp} {E:XK} (hK:X.K=K) (ca:ClsAt K X.mg x) (g:MF X.prog X.w K X.mg X.base CX k x ps sp) (hr:Room (k+1) X.A) (hx:Passes CX X E) (ha:QA X (e::es) t) (hg:Gl X x:=by rfl)
  (hdb:(x == ("__debug__":Str))=false:=by decide) (he:starEach (e::es) X.env=(false,eval e X.env)::starEach es X.env:=by rfl) (hpl:(backTo pos (starEach es X.env)).any (·.1)=false:=by rfl) :
  QE X (.Call (.Name x p) (e::es) [] pos) (tMake (mq K x) sp [] E t):=by
 subst hK
 obtain ⟨f,fd,F,hm,hb⟩:=g
 exact ⟨YT hm F hr hg ca.mg hb .nil hx ha.h hdb he hpl⟩
theorem Xd {CX:CXT} {k:Nat} {ps:List Str} {sp:Sp} {E:XK} (hK:X.K=K) (ca:ClsAt K X.mg x) (g:MF X.prog X.w K X.mg X.base CX k x ps sp) (hr:Room (k+1) X.A) (hx:Passes CX X E) (hg:Gl X x:=by rfl)
  (hdb:(x == ("__debug__":Str))=false:=by decide):QE X (.Call (.Name x p) [] [] pos) (tMake (mq K x) sp [] E tNil):=by
 subst hK
 obtain ⟨f,fd,F,hm,hb⟩:=g
 exact ⟨pe_make0 hm F hr hg ca.mg hb .nil hx hdb⟩
theorem Xe (K:PySem.W.Frag) (ta:TE) (f:Str) (σ:St) (H:Hp) (Q:VK):tFld K ta f σ H Q=ta σ H fun x H1=>Ja x fun a=>∃ C dx fs,H1 a=some (.ins C dx fs)∧Cls K C∧NoAttr K C f∧∃ v,fs.lookup f=some v∧Q v H1:=by
 unfold tFld Ja
 congr;funext x H1
 exact propext ⟨fun ⟨a,C,dx,fs,v,e,h1,h2,h3,h4,q⟩=>⟨a,e,C,dx,fs,h1,h2,h3,v,h4,q⟩,fun ⟨a,e,C,dx,fs,h1,h2,h3,v,h4,q⟩=>⟨a,C,dx,fs,v,e,h1,h2,h3,h4,q⟩⟩
theorem Sx (K:PySem.W.Frag) (ta tv:TE) (f:Str) (D:Ends) (σ:St) (H:Hp):sFld K ta tv f D σ H=tv σ H fun y H1=>ta σ H1 fun x H2=>Ja x fun a=>∃ C dx fs,H2 a=some (.ins C dx fs)∧Cls K C∧NoAttr K C f∧fs.length<1000∧D.nx σ (upd H2 a (.ins C dx (putF f y fs))):=by
 unfold sFld Ja
 congr;funext y H1;congr;funext x H2
 exact propext ⟨fun ⟨a,C,dx,fs,e,h⟩=>⟨a,e,C,dx,fs,h⟩,fun ⟨a,e,C,dx,fs,h⟩=>⟨a,C,dx,fs,e,h⟩⟩
theorem Sy (C:Addr) (m:Str) (sp:Sp) (E:XK) (ta:TE) (t:TA) (σ:St) (H:Hp) (Q:VK):tMeth C m sp [] E ta t σ H Q=ta σ H fun x H1=>Ja x fun a=>∃ dx fs,H1 a=some (.ins C dx fs)∧fs.lookup m=none∧t σ H1 fun vs H2=>sp (.ref a::vs) H2 Q E:=by
 unfold tMeth Ja
 congr;funext x H1
 simp only [List.append_nil]
 refine propext ⟨fun ⟨a,dx,fs,e,h1,h2,q⟩=>⟨a,e,dx,fs,h1,h2,?_⟩,fun ⟨a,e,dx,fs,h1,h2,q⟩=>⟨a,dx,fs,e,h1,h2,?_⟩⟩
 ·subst e;exact q
 ·subst e;exact q
theorem SJ (C:Addr) (sp:Sp) (E:XK) (t:TA) (σ:St) (H:Hp) (Q:VK):tMake C sp [] E t σ H Q=t σ H fun vs H1=>∀ x dx,H1 x=none→H1 dx=none→dx≠x→sp (.ref x::vs) (upd (upd H1 dx (.own x)) x (.ins C dx [])) (fun v H2=>v=.non∧Q (.ref x) H2) E:=by
 unfold tMake;simp only [List.append_nil]
theorem Jr (l:Addr) (i:Int) (H:Hp) (Q:VK):Vz (.ref l) [.int i] H Q=∃ xs,H l=some (.lst xs)∧(-(2 ^ 63)≤i∧i<2 ^ 63)∧∃ k,seqIndex? i xs.length=some k∧∃ y,xs[k]? = some y∧Q y (upd H l (.lst (xs.eraseIdx k))):=by
 refine propext ⟨fun ⟨_,xs,_,k,y,e1,e2,h1,h2,h3,h4,h5,q⟩=>?_,fun ⟨xs,h1,⟨h2,h3⟩,k,h4,y,h5,q⟩=>⟨l,xs,i,k,y,rfl,rfl,h1,h2,h3,h4,h5,q⟩⟩
 cases e1;cases e2;exact ⟨xs,h1,⟨h2,h3⟩,k,h4,y,h5,q⟩
def aaw:List V→Hp→VK→Prop:=fun xs H Q=>∃ a kvs,xs=[V.ref a]∧H a=some (.dK kvs)∧Q (.int kvs.length) H
theorem Pk:CallR X (.builtin "len") aaw:=call_lenD
theorem MP (a:Addr) (H:Hp) (Q:VK):aaw [.ref a] H Q=∃ kvs,H a=some (.dK kvs)∧Q (.int kvs.length) H:=by
 refine propext ⟨fun ⟨_,kvs,e,h⟩=>?_,fun ⟨kvs,h⟩=>⟨a,kvs,rfl,h⟩⟩
 cases e;exact ⟨kvs,h⟩
def Xf:List V→Hp→VK→Prop:=fun xs H Q=>∃ a kvs,xs=[V.ref a]∧H a=some (.dK kvs)∧∀ l,H l=none→Q (.ref l) (upd H l (.lst (kvs.map fun kv=>kV kv.1)))
theorem Js (a:Addr) (H:Hp) (Q:VK):Xf [.ref a] H Q=∃ kvs,H a=some (.dK kvs)∧∀ l,H l=none→Q (.ref l) (upd H l (.lst (kvs.map fun kv=>kV kv.1))):=by
 refine propext ⟨fun ⟨_,kvs,e,h⟩=>?_,fun ⟨kvs,h⟩=>⟨a,kvs,rfl,h⟩⟩
 cases e;exact ⟨kvs,h⟩
theorem abE {P:Program} {w:World} {k:Key} {u:Value} (h:(mixKind P w).is k u=true):RelV (kV k) u:=by
 rcases keyIs_shape h with ⟨i,t,rfl,rfl⟩ | ⟨x,t,rfl,rfl⟩
 ·exact ⟨t,rfl⟩
 ·exact ⟨t,rfl⟩
theorem Ke:∀ {xs:List V} {us:List Value},xs.length=us.length→(∀ (j:Nat) (x:V) (u:Value),xs[j]? = some x→us[j]? = some u→RelV x u)→Vals xs us
 | [],[],_,_=>.nil
 | x::xs,u::us,hl,h=>.cons (h 0 x u rfl rfl) (Ke (by simpa using hl) fun j y v e1 e2=>h (j+1) y v (by simpa using e1) (by simpa using e2))
 | [],_::_,hl,_=>by simp at hl
 | _::_,[],hl,_=>by simp at hl
theorem Pn (hc:X.calm=true):CallR X (.type "list") Xf:=by
 intro pins s σ H xs us Q I r h
 obtain ⟨a,kvs,rfl,ha,q⟩:=h
 obtain ⟨u,rfl,rx⟩:=vals1 r
 cases rx
 obtain ⟨hz,lo,vs,rel,dd⟩:=dk_of I.hok ha
 obtain ⟨ep,hat⟩:=dd.dictAt
 have hlen:=rel.length
 refine PySem.W.kdl_call (PySem.W.kdl_dict (knd:=mixKind X.prog X.w) (kvs:=vs) (ep:=ep) lo) (I.ok.hd hc) hat (by omega) fun h' tk acc' c' hk hS hacc=>?_
 have hv:Vals (kvs.map fun kv=>kV kv.1) acc'.toList:=by
  refine Ke (by have h9:=hacc.1;simp only [List.length_map,Array.length_toList];omega) fun j x u e1 e2=>?_
  rw [Array.getElem?_toList] at e2
  obtain ⟨k,y,e3,e4⟩:=hacc.2 j u e2
  have hkeys:=rel.keys
  have e5:(kvs.map (·.1))[j]? = some k:=by rw [hkeys,List.getElem?_map,e3];rfl
  rw [List.getElem?_map] at e1 e5
  cases hkv:kvs[j]? with
  | none=>rw [hkv] at e1;cases e1
  | some kv =>
   rw [hkv] at e1 e5
   have h1:kV kv.1=x:=Option.some.inj e1
   have h2:kv.1=k:=Option.some.inj e5
   rw [←h1,h2]
   exact abE e4
 refine ⟨.ref s.heap.objs.size,_,I.laid (t':=tk) hk (Nat.le_refl _) (show ObjOk X.prog X.w _ h' _ (.lst _) from ⟨by rw [List.length_map];exact hz,acc'.toList,c',hv,?_⟩),rfl,q _ (I.hok.fresh (Nat.le_refl _))⟩
 simpa using hS
end
end L2
namespace L2
open PySem PySem.Spec PyProof.Rows
section
variable {P:Program} {w:World} {X:Cx} {tg:Expr} {pins:List (Addr×Obj)} {σ:St} {H:Hp} {s:Shared} {a:Addr} {ob:Obj} {kvs:List (Key×V)}
end
section
variable {X:Cx}
end
end L2
namespace My
open PySem L2
def conv (F G:Nat→Nat) (T:Nat):Nat:=tot (T+1) (fun t=>F t*G (T - t))
end My
namespace My
open PySem L2
def Zn (x:Nat):List Nat→List Nat
 | []=>[x]
 | y::r=>if x≤y then x::y::r else y::Zn x r
def Zo:List Nat→List Nat
 | []=>[]
 | x::r=>Zn x (Zo r)
theorem Jt (x:Nat):∀ l:List Nat,(Zn x l).Perm (x::l)
 | []=>List.Perm.refl _
 | y::r=>by
  unfold Zn
  split
  ·exact List.Perm.refl _
  ·exact ((Jt x r).cons y).trans (List.Perm.swap x y r)
theorem Ju:∀ l:List Nat,(Zo l).Perm l
 | []=>List.Perm.refl _
 | x::r=>(Jt x (Zo r)).trans ((Ju r).cons x)
def dgF (b:Nat):Nat→Nat→List Nat
 | 0,n=>[n]
 | k+1,n=>if n<b then [n] else n % b::dgF b k (n / b)
theorem Pq {b:Nat} (hb:2≤b):∀ k n,n<2 ^ (k+1)→dgF b k n=fl b n
 | 0,n,h=>by
  show [n]=fl b n
  rw [uo (by have:(2:Nat) ^ (0+1)=2:=rfl;omega)]
 | k+1,n,h=>by
  unfold dgF
  by_cases e:n<b
  ·rw [if_pos e,uo e]
  ·rw [if_neg e,wW hb (by omega),Pq hb k (n / b) ?_]
   have h1:n / b≤n / 2:=Nat.div_le_div_left hb (by decide)
   rw [Nat.pow_succ] at h
   omega
def Ur (b n:Nat):List Nat:=Zo (dgF b 8 n)
def classes (b:Nat):List (List Nat):=(((List.range 451).filter fun n=>decide (n≤50*(dgF b 8 n).length)).map (Ur b)).eraseDups
theorem M5:∀ b,b<17→2≤b→(classes b).length<128:=by decide +kernel
theorem Pr {α:Type} [DecidableEq α]:∀ (l D:List α),l.Nodup→(∀ x∈l,x∈D)→l.length≤D.length
 | [],_,_,_=>Nat.zero_le _
 | x::r,D,nd,h=>by
  rw [List.nodup_cons] at nd
  have hx:=h x List.mem_cons_self
  have h1:=Pr r (D.erase x) nd.2 (fun y hy=>(List.mem_erase_of_ne (fun z:y=x=>nd.1 (by rw [←z];exact hy))).mpr (h y (List.mem_cons_of_mem _ hy)))
  rw [List.length_erase_of_mem hx] at h1
  have:0<D.length:=List.length_pos_of_mem hx
  rw [List.length_cons]
  omega
theorem Xg {l m:List Nat} (h:l.Perm m):l.sum=m.sum:=by
 induction h with
 | nil=>rfl
 | cons x _ ih=>rw [List.sum_cons,List.sum_cons,ih]
 | swap x y r=>rw [List.sum_cons,List.sum_cons,List.sum_cons,List.sum_cons];omega
 | trans _ _ i1 i2=>exact i1.trans i2
theorem Ba {ws:List Nat} (h2:2≤ws.length) (Ow:ws.length≤16) (hw:∀ x∈ws,x≤50) {Ms:List Nat} (nd:Ms.Nodup) (hM:∀ M∈Ms,∃ R L,bw (fall ws) R M L):Ms.length<128:=by
 have small:∀ M∈Ms,M≤50*(fl ws.length M).length∧M<451:=fun M hm=>by
  obtain ⟨R,L,h⟩:=hM M hm
  have h1:M≤fall ws M:=h.low _ (h.fj 1)
  refine ⟨Nat.le_trans h1 (yP hw M),?_⟩
  apply Nat.lt_of_not_le
  intro z
  have:=eZ h2 hw z
  omega
 have rep:∀ M∈Ms,(Ur ws.length M).Perm (fl ws.length M):=fun M hm=>by
  unfold Ur
  rw [Pq h2 8 M (by have:=(small M hm).2;have:(2:Nat) ^ 9=512:=rfl;omega)]
  exact Ju _
 have inj:∀ M∈Ms,∀ N∈Ms,Ur ws.length M=Ur ws.length N→M=N:=fun M hm N hn e=>by
  obtain ⟨R,L,h⟩:=hM M hm
  obtain ⟨R',L',h'⟩:=hM N hn
  have hp:(fl ws.length M).Perm (fl ws.length N):=(rep M hm).symm.trans (by rw [e];exact rep N hn)
  have hf:fall ws M=fall ws N:=Xg (hp.map (wt ws))
  have m1:it (fall ws) (fall ws M) 0∈R:=h.fj 1
  have m2:it (fall ws) (fall ws M) 0∈R':=by rw [hf];exact h'.fj 1
  exact (h.uniq h' m1 m2).2
 have h1:(Ms.map (Ur ws.length)).length≤(classes ws.length).length:=by
  refine Pr _ _ (List.pairwise_map.mpr (nd.imp_of_mem fun {x y} hx hy hne e=>hne (inj x hx y hy e))) (fun r hr=>?_)
  obtain ⟨M,hm,rfl⟩:=List.mem_map.mp hr
  unfold classes
  rw [List.mem_eraseDups]
  refine List.mem_map_of_mem (List.mem_filter.mpr ⟨List.mem_range.mpr (small M hm).2,decide_eq_true ?_⟩)
  rw [Pq h2 8 M (by have:=(small M hm).2;have:(2:Nat) ^ 9=512:=rfl;omega)]
  exact (small M hm).1
 rw [List.length_map] at h1
 exact Nat.lt_of_le_of_lt h1 (M5 _ (by omega) h2)
end My
namespace My
open PySem L2
structure Met (f:Nat→Nat) (i:Nat) (ks:List Nat):Prop where
 clo:∀ n∈ks,f n∈ks
 le:∀ n∈ks,n≤450
 nd:ks.Nodup
 all:∀ s,s<i→s∈ks
theorem Kf {f:Nat→Nat} {ks:List Nat} (h:∀ n∈ks,f n∈ks) {n:Nat} (hn:n∈ks):∀ t,it f n t∈ks
 | 0=>hn
 | t+1=>h _ (Kf h hn t)
structure Rgs (f:Nat→Nat) (ks:List Nat) (Rs:List (List Nat)):Prop where
 ring:∀ R∈Rs,∃ M L,bw f R M L∧M∈ks
 nd:(Rs.map fun R=>R.headD 0).Nodup
 all:∀ R M L,bw f R M L→M∈ks→R∈Rs
theorem bw.headD {f:Nat→Nat} {R:List Nat} {M L:Nat} (h:bw f R M L):R.headD 0=M:=by
 have:=h.head
 cases R with
 | nil=>cases this
 | cons x r=>exact Option.some.inj this
structure Ox (f:Nat→Nat) (i:Nat) (ks:List Nat) (t:Nat):Prop where
 nd:(ks++path f i t).Nodup
theorem Ox.zero {f:Nat→Nat} {i:Nat} {ks:List Nat} (h:ks.Nodup):Ox f i ks 0:=⟨by show (ks++[]).Nodup;rw [List.append_nil];exact h⟩
theorem Ox.succ {f:Nat→Nat} {i t:Nat} {ks:List Nat} (h:Ox f i ks t) (hn:it f i t ∉ ks++path f i t):Ox f i ks (t+1):=by
 constructor
 rw [iy,←List.append_assoc]
 refine List.nodup_append.mpr ⟨h.nd,by simp,fun a ha b hb e=>?_⟩
 rw [List.mem_singleton.mp hb] at e
 exact hn (e ▸ ha)
theorem Ox.short {f:Nat→Nat} {i t:Nat} {ks:List Nat} (h:Ox f i ks t) (hle:∀ n∈ks,n≤450) (hp:∀ j,it f i j≤450):t≤451∧(ks++path f i t).length≤451:=by
 have h1:=J5 451 (ks++path f i t) h.nd (fun x hx=>by
  rcases List.mem_append.mp hx with z | z
  ·have:=hle x z;omega
  ·obtain ⟨j,_,e⟩:=bJ.mp z
   have:=hp j;omega)
 refine ⟨?_,h1⟩
 rw [List.length_append,bh] at h1
 omega
theorem Met.next {f:Nat→Nat} {i t:Nat} {ks:List Nat} (m:Met f i ks) (h:Ox f i ks t) (hp:∀ j,it f i j≤450) (hc:it f i t∈ks++path f i t):Met f (i+1) (ks++path f i t) where
 clo:=fun n hn=>by
  rcases List.mem_append.mp hn with z | z
  ·exact List.mem_append_left _ (m.clo n z)
  ·obtain ⟨j,hj,rfl⟩:=bJ.mp z
   show it f i (j+1)∈_
   by_cases e:j+1=t
   ·rw [e];exact hc
   ·exact List.mem_append_right _ (bJ.mpr ⟨j+1,by omega,rfl⟩)
 le:=fun n hn=>by
  rcases List.mem_append.mp hn with z | z
  ·exact m.le n z
  ·obtain ⟨j,_,e⟩:=bJ.mp z
   rw [←e];exact hp j
 nd:=h.nd
 all:=fun s hs=>by
  by_cases e:s=i
  ·subst e
   by_cases e2:t=0
   ·subst e2;exact hc
   ·exact List.mem_append_right _ (bJ.mpr ⟨0,by omega,rfl⟩)
  ·exact List.mem_append_left _ (m.all s (by omega))
theorem Rgs.old {f:Nat→Nat} {i t:Nat} {ks:List Nat} {Rs:List (List Nat)} (m:Met f i ks) (g:Rgs f ks Rs) (hc:it f i t∈ks):Rgs f (ks++path f i t) Rs where
 ring:=fun R hR=>by
  obtain ⟨M,L,h,hM⟩:=g.ring R hR
  exact ⟨M,L,h,List.mem_append_left _ hM⟩
 nd:=g.nd
 all:=fun R M L h hM=>by
  rcases List.mem_append.mp hM with z | z
  ·exact g.all R M L h z
  ·obtain ⟨j,hj,e⟩:=bJ.mp z
   have h1:it f M (t - j)=it f i t:=by rw [←e,←fY,show j+(t - j)=t by omega]
   have h2:it f i t∈R:=by rw [←h1];exact h.fj _
   obtain ⟨u,hu⟩:=h.back h2
   exact g.all R M L h (by rw [←hu];exact Kf m.clo hc u)
theorem Rgs.new {f:Nat→Nat} {i t j':Nat} {ks R:List Nat} {Rs:List (List Nat)} (m:Met f i ks) (w:Ox f i ks t) (g:Rgs f ks Rs) (hc:it f i t∈path f i t) (hR:fZ f (it f i t) R j') (hcl:∀ n∈ks++path f i t,f n∈ks++path f i t) :
  Rgs f (ks++path f i t) (Rs++[R]):=by
 obtain ⟨j,hj,e⟩:=bJ.mp hc
 obtain ⟨M,L,u,h,hu⟩:=hR.ring
 have cyc:it f (it f i t) (t - j)=it f i t:=by
  conv=>lhs;rw [←e]
  rw [←fY,show j+(t - j)=t by omega]
 have acP:it f i t∈R:=by
  have h1:it f (it f i t) (u+(u*(t - j)+(t - j) - u))=it f i t:=by
   have hge:u≤u*(t - j)+(t - j):=by
    have:=Nat.le_mul_of_pos_right u (show 0<t - j by omega)
    omega
   rw [show u+(u*(t - j)+(t - j) - u)=(u+1)*(t - j) by rw [Nat.succ_mul];omega,WW (by omega) cyc,Nat.mul_mod_left]
   rfl
  rw [fY,hu] at h1
  rw [←h1];exact h.fj _
 have adY:it f i t ∉ ks:=fun z=>by
  exact (List.nodup_append.mp w.nd).2.2 _ z _ hc rfl
 have Mk:M∈ks++path f i t:=by rw [←hu];exact Kf hcl (List.mem_append_right _ hc) u
 refine ⟨fun R' hR'=>?_,?_,fun R' M' L' h' hM'=>?_⟩
 ·rcases List.mem_append.mp hR' with z | z
  ·obtain ⟨M',L',h',hM'⟩:=g.ring R' z
   exact ⟨M',L',h',List.mem_append_left _ hM'⟩
  ·rw [List.mem_singleton.mp z]
   exact ⟨M,L,h,Mk⟩
 ·rw [List.map_append]
  refine List.nodup_append.mpr ⟨g.nd,by simp,fun a ha b hb e2=>?_⟩
  obtain ⟨R',hR',rfl⟩:=List.mem_map.mp ha
  obtain ⟨M',L',h',hM'⟩:=g.ring R' hR'
  have hb':b=R.headD 0:=by simpa using hb
  rw [hb',h.headD,h'.headD] at e2
  subst e2
  obtain ⟨q,_,hq⟩:=h.J6 acP
  exact adY (by rw [←hq];exact Kf m.clo hM' q)
 ·rcases List.mem_append.mp hM' with z | z
  ·exact List.mem_append_left _ (g.all R' M' L' h' z)
  ·obtain ⟨j2,hj2,e2⟩:=bJ.mp z
   have h1:it f M' (t - j2)=it f i t:=by rw [←e2,←fY,show j2+(t - j2)=t by omega]
   have h2:it f i t∈R':=by rw [←h1];exact h'.fj _
   have:=(h'.uniq h (n:=it f i t) (i:=0) (i':=0) h2 acP).1
   rw [this]
   exact List.mem_append_right _ (by simp)
theorem M6 {ws:List Nat} (hb:2≤ws.length) (hw:∀ x∈ws,x≤50) {n:Nat} (h:n≤450):fall ws n≤450:=by
 have h1:=yP hw n
 have h2:(fl ws.length n).length≤9:=by
  by_cases e:n=0
  ·subst e;rw [uo (by omega)];decide
  ·apply Nat.le_of_not_lt
   intro z
   have h3:=WT hb n (by omega)
   have h4:2 ^ 9≤ws.length ^ ((fl ws.length n).length - 1):=Nat.le_trans (Nat.pow_le_pow_left hb 9) (Nat.pow_le_pow_right (by omega) (by omega))
   have:(2:Nat) ^ 9=512:=rfl
   omega
 omega
theorem Pu {ws:List Nat} (hb:2≤ws.length) (hw:∀ x∈ws,x≤50) {n:Nat} (h:n≤450):∀ j,it (fall ws) n j≤450
 | 0=>h
 | j+1=>M6 hb hw (Pu hb hw h j)
end My
namespace My
open PySem L2
def Bb (f:Nat→Nat) (n M:Nat):Prop:=∃ R L t,bw f R M L∧it f n t=M
theorem Bb.uniq {f:Nat→Nat} {n M M':Nat} (h:Bb f n M) (h':Bb f n M'):M=M':=by
 obtain ⟨R,L,t,h1,h2⟩:=h
 obtain ⟨R',L',t',h1',h2'⟩:=h'
 exact (h1.uniq h1' (by rw [h2];exact h1.fj 0) (by rw [h2'];exact h1'.fj 0)).2
theorem Bb.up {f:Nat→Nat} {n M:Nat} (h:Bb f (f n) M):Bb f n M:=by
 obtain ⟨R,L,t,h1,h2⟩:=h
 exact ⟨R,L,t+1,h1,by rw [yS];exact h2⟩
theorem bw.home {f:Nat→Nat} {R:List Nat} {M L:Nat} (h:bw f R M L) {x:Nat} (hx:x∈R):Bb f x M:=by
 obtain ⟨t,e⟩:=h.back hx
 exact ⟨R,L,t,h,e⟩
theorem fZ.home {f:Nat→Nat} {n j:Nat} {R:List Nat} (h:fZ f n R j):∃ M L,bw f R M L∧Bb f n M:=by
 obtain ⟨M,L,i,h1,h2⟩:=h.ring
 exact ⟨M,L,h1,R,L,i,h1,h2⟩
theorem Xh:∀ (l:List Nat),l≠[]→∃ m∈l,∀ a∈l,m≤a
 | [],h=>absurd rfl h
 | [x],_=>⟨x,List.mem_cons_self,fun a ha=>by rw [List.mem_singleton.mp ha];exact Nat.le_refl _⟩
 | x::y::r,_=>by
  obtain ⟨m,h1,h2⟩:=Xh (y::r) (by simp)
  by_cases e:x≤m
  ·refine ⟨x,List.mem_cons_self,fun a ha=>?_⟩
   rcases List.mem_cons.mp ha with z | z
   ·rw [z];exact Nat.le_refl _
   ·exact Nat.le_trans e (h2 a z)
  ·refine ⟨m,List.mem_cons_of_mem _ h1,fun a ha=>?_⟩
   rcases List.mem_cons.mp ha with z | z
   ·rw [z];omega
   ·exact h2 a z
theorem Xi {f:Nat→Nat} {n B:Nat} (hB:∀ i,it f n (i+1)≤B):∃ k,vd f n k:=by
 have key:∀ k,(path f n k).Nodup∨∃ k',vd f n k':=fun k=>by
  induction k with
  | zero=>exact .inl List.nodup_nil
  | succ k ih =>
   rcases ih with h | h
   ·by_cases e:it f n k∈path f n k
    ·exact .inr ⟨k,h,e⟩
    ·exact .inl (yU h e)
   ·exact .inr h
 rcases key (B+3) with h | h
 ·have:=eY hB h;omega
 ·exact h
theorem Us {f:Nat→Nat} {n B:Nat} (hB:∀ i,it f n (i+1)≤B):∃ R j,fZ f n R j:=by
 obtain ⟨k,hk⟩:=Xi hB
 obtain ⟨j,hj,e⟩:=bJ.mp hk.me
 have ne:(path f n k).drop j≠[]:=fun z=>by
  have:=congrArg List.length z
  rw [List.length_drop,bh] at this
  simp at this;omega
 obtain ⟨m,h1,h2⟩:=Xh _ ne
 obtain ⟨s,h3,h4⟩:=yV h1
 exact ⟨_,j,k,s,hk,hj,e,⟨m,h3,h2,h4⟩,rfl⟩
theorem Zq {ws:List Nat} (hb:2≤ws.length) (hw:∀ x∈ws,x≤50) (n:Nat):∃ M,Bb (fall ws) n M:=by
 induction n using Nat.strongRecOn with
 | _ n ih =>
  by_cases h:n≤450
  ·obtain ⟨R,j,hR⟩:=Us (f:=fall ws) (n:=n) (B:=450) (fun i=>Pu hb hw h (i+1))
   obtain ⟨M,L,_,h2⟩:=hR.home
   exact ⟨M,h2⟩
  ·obtain ⟨M,hM⟩:=ih (fall ws n) (eZ hb hw (by omega))
   exact ⟨M,hM.up⟩
def hm (f:Nat→Nat) (n:Nat):Nat:=open Classical in if h:∃ M,Bb f n M then Classical.choose h else 0
theorem M7 {f:Nat→Nat} {n M:Nat} (h:Bb f n M):hm f n=M:=by
 have hx:∃ M,Bb f n M:=⟨M,h⟩
 unfold hm
 rw [dif_pos hx]
 exact (Classical.choose_spec hx).uniq h
structure Bk (ws:List Nat):Prop where
 two:2≤ws.length
 top:ws.length≤16
 le:∀ x∈ws,x≤50
theorem Bk.home {ws:List Nat} (b:Bk ws) (n:Nat):Bb (fall ws) n (My.hm (fall ws) n):=by
 obtain ⟨M,h⟩:=Zq b.two b.le n
 rw [M7 h];exact h
theorem Bk.Kg {ws:List Nat} (b:Bk ws) (n:Nat):My.hm (fall ws) (fall ws n)=My.hm (fall ws) n:=(M7 (b.home (fall ws n)).up).symm
theorem Bk.Xj {ws:List Nat} (b:Bk ws) (n:Nat):∀ t,My.hm (fall ws) (it (fall ws) n t)=My.hm (fall ws) n
 | 0=>rfl
 | t+1=>by rw [it,b.Kg,b.Xj n t]
theorem Bk.acQ {ws:List Nat} (b:Bk ws) (n:Nat):My.hm (fall ws) (My.hm (fall ws) n)=My.hm (fall ws) n:=by
 obtain ⟨R,L,t,h1,h2⟩:=b.home n
 exact M7 (h1.home (h1.fj 0))
theorem Bk.ring {ws:List Nat} (b:Bk ws) (n:Nat):∃ R L,bw (fall ws) R (My.hm (fall ws) n) L:=by
 obtain ⟨R,L,t,h1,h2⟩:=b.home n
 exact ⟨R,L,h1⟩
theorem bw.Xk {ws:List Nat} (b:Bk ws) {R:List Nat} {M L:Nat} (h:bw (fall ws) R M L):M≤450:=by
 have h1:M≤fall ws M:=h.low _ (h.fj 1)
 apply Nat.le_of_not_lt
 intro z
 have:=eZ b.two b.le (n:=M) (by omega)
 omega
theorem Bk.acR {ws:List Nat} (b:Bk ws) (n:Nat):My.hm (fall ws) n≤450:=by
 obtain ⟨R,L,h⟩:=b.ring n
 exact h.Xk b
theorem fZ.hmR {ws:List Nat} {n j:Nat} {R:List Nat} (h:fZ (fall ws) n R j):∃ L,bw (fall ws) R (My.hm (fall ws) n) L:=by
 obtain ⟨M,L,h1,h2⟩:=h.home
 rw [M7 h2];exact ⟨L,h1⟩
def cH (ws:List Nat):List Nat:=(List.range 451).filter fun M=>decide (hm (fall ws) M=M)
theorem vh (ws:List Nat):(cH ws).Pairwise (· < ·):=List.pairwise_lt_range.filter _
theorem Ew (ws:List Nat):(cH ws).Nodup:=(vh ws).imp fun h=>Nat.ne_of_lt h
theorem Bk.nu {ws:List Nat} (b:Bk ws) (M:Nat):M∈cH ws ↔ hm (fall ws) M=M:=by
 unfold cH
 rw [List.mem_filter,List.mem_range,decide_eq_true_eq]
 refine ⟨fun h=>h.2,fun h=>⟨?_,h⟩⟩
 have:=b.acR M
 omega
theorem Bk.Kh {ws:List Nat} (b:Bk ws) (n:Nat):hm (fall ws) n∈cH ws:=(b.nu _).mpr (b.acQ n)
theorem bw.nu {ws:List Nat} (b:Bk ws) {R:List Nat} {M L:Nat} (h:bw (fall ws) R M L):M∈cH ws:=(b.nu M).mpr (M7 (h.home (h.fj 0)))
theorem Bk.few {ws:List Nat} (b:Bk ws):(cH ws).length<128:=Ba b.two b.top b.le (Ew ws) (fun M hM=>by
 obtain ⟨R,L,h⟩:=b.ring M
 rw [(b.nu M).mp hM] at h
 exact ⟨R,L,h⟩)
theorem Kl {α:Type} {lt:α→α→Prop} (irr:∀ a,¬ lt a a) (asy:∀ a b,lt a b→¬ lt b a):∀ {l m:List α},l.Pairwise lt→m.Pairwise lt→(∀ x,x∈l ↔ x∈m)→l=m
 | [],[],_,_,_=>rfl
 | [],y::m,_,_,h=>absurd ((h y).mpr List.mem_cons_self) (by simp)
 | x::l,[],_,_,h=>absurd ((h x).mp List.mem_cons_self) (by simp)
 | x::l,y::m,h1,h2,h=>by
  rw [List.pairwise_cons] at h1 h2
  have e:x=y:=by
   rcases List.mem_cons.mp ((h x).mp List.mem_cons_self) with z | z
   ·exact z
   ·rcases List.mem_cons.mp ((h y).mpr List.mem_cons_self) with z2 | z2
    ·exact z2.symm
    ·exact absurd (h2.1 x z) (asy _ _ (h1.1 y z2))
  subst e
  congr 1
  refine Kl irr asy h1.2 h2.2 fun z=>⟨fun hz=>?_,fun hz=>?_⟩
  ·exact (List.mem_cons.mp ((h z).mp (List.mem_cons_of_mem _ hz))).resolve_left fun e=>irr x (by have:=h1.1 z hz;rw [e] at this;exact this)
  ·exact (List.mem_cons.mp ((h z).mpr (List.mem_cons_of_mem _ hz))).resolve_left fun e=>irr x (by have:=h2.1 z hz;rw [e] at this;exact this)
theorem nA {ws:List Nat} (b:Bk ws) {out:List (Addr×List Int)} (ho:∀ p∈out,∃ R M L,bw (fall ws) R M L∧p.2=R.map (fun d:Nat=>(d:Int))) (Ut:out.Pairwise (fun p q=>p.2.headD 0<q.2.headD 0))
  (hall:∀ R M L,bw (fall ws) R M L→∃ p∈out,p.2=R.map (fun d:Nat=>(d:Int))):out.map (fun p=>p.2.headD 0)=(cH ws).map (fun d:Nat=>(d:Int)):=by
 have hd:∀ {R:List Nat} {M L:Nat},bw (fall ws) R M L→(R.map (fun d:Nat=>(d:Int))).headD 0=(M:Int):=fun {R M L} h=>by
  have:=h.head
  cases R with
  | nil=>cases this
  | cons x r=>have e:x=M:=Option.some.inj this;rw [e];rfl
 refine Kl (lt:=fun a b:Int=>a<b) (fun a=>Int.lt_irrefl a) (fun a b h z=>by omega) (List.pairwise_map.mpr Ut) (List.pairwise_map.mpr ((vh ws).imp fun {x y} h=>by show (x:Int)<y;omega)) fun z=>⟨fun hz=>?_,fun hz=>?_⟩
 ·obtain ⟨p,hp,rfl⟩:=List.mem_map.mp hz
  obtain ⟨R,M,L,h,e⟩:=ho p hp
  rw [e,hd h]
  exact List.mem_map_of_mem (h.nu b)
 ·obtain ⟨M,hM,rfl⟩:=List.mem_map.mp hz
  obtain ⟨R,L,h⟩:=b.ring M
  rw [(b.nu M).mp hM] at h
  obtain ⟨p,hp,e⟩:=hall R M L h
  exact List.mem_map.mpr ⟨p,hp,by rw [e,hd h]⟩
end My
namespace My
open PySem L2
theorem Px {ws:List Nat} (b:Bk ws) {n T:Nat} (h:n≤T+450):∀ j,it (fall ws) n j≤T+450
 | 0=>h
 | j+1=>by
  have ih:=Px b h j
  show fall ws (it (fall ws) n j)≤_
  by_cases e:it (fall ws) n j≤450
  ·have:=M6 b.two b.le e;omega
  ·have:=eZ b.two b.le (n:=it (fall ws) n j) (by omega);omega
structure SM (ws:List Nat) (i T:Nat) (ps:List (Nat×V)):Prop where
 nd:(ps.map (·.1)).Nodup
 val:∀ n v,ps.lookup n=some v→v=vI (hm (fall ws) n)
 all:∀ n,n<i→n∈ps.map (·.1)
 le:∀ n∈ps.map (·.1),n≤T+450
theorem SM.nil (ws:List Nat) (T:Nat):SM ws 0 T []:=⟨List.nodup_nil,fun n v e=>by simp at e,fun n h=>by omega,fun n h=>by simp at h⟩
theorem SM.at {ws:List Nat} {i T:Nat} {ps:List (Nat×V)} (h:SM ws i T ps) {n:Nat} (hn:n∈ps.map (·.1)):ps.lookup n=some (vI (hm (fall ws) n)):=by
 have hs:(ps.lookup n).isSome=true:=by rw [lookup_isSome];exact decide_eq_true hn
 obtain ⟨v,hv⟩:=Option.isSome_iff_exists.mp hs
 rw [hv,h.val n v hv]
theorem SM.get {ws:List Nat} {i T:Nat} {ps:List (Nat×V)} (h:SM ws i T ps) {n:Nat} (hn:n<i):ps.lookup n=some (vI (hm (fall ws) n)):=h.at (h.all n hn)
theorem SM.short {ws:List Nat} {i T t:Nat} {ps:List (Nat×V)} (b:Bk ws) (h:SM ws i T ps) (hi:i≤T) (w:Ox (fall ws) i (ps.map (·.1)) t):ps.length+t≤T+451:=by
 have:=J5 (T+451) _ w.nd (fun x hx=>by
  rcases List.mem_append.mp hx with z | z
  ·have:=h.le x z;omega
  ·obtain ⟨j,_,rfl⟩:=bJ.mp z
   have:=Px b (show i≤T+450 by omega) j;omega)
 rw [List.length_append,List.length_map,bh] at this;exact this
theorem yZ {v u:V}:∀ {l:List Nat} {n:Nat},(l.map fun x=>(x,v)).lookup n=some u→u=v∧n∈l
 | [],n,e=>by simp at e
 | x::r,n,e=>by
  rw [List.map_cons,List.lookup_cons] at e
  split at e
  ·rename_i c
   exact ⟨(Option.some.inj e).symm,by rw [show n=x by simpa using c];exact List.mem_cons_self⟩
  ·obtain ⟨h1,h2⟩:=yZ e
   exact ⟨h1,List.mem_cons_of_mem _ h2⟩
theorem sG (ps:List (Nat×V)) (l:List Nat) (v:V):(ps++l.map fun x=>(x,v)).map (·.1)=ps.map (·.1)++l:=by
 rw [List.map_append,List.map_map]
 congr 1
 exact List.map_id _
theorem SM.next {ws:List Nat} {i T t:Nat} {ps:List (Nat×V)} (b:Bk ws) (h:SM ws i T ps) (hi:i≤T) (w:Ox (fall ws) i (ps.map (·.1)) t) (hc:it (fall ws) i t∈ps.map (·.1)++path (fall ws) i t) :
  SM ws (i+1) T (ps++(path (fall ws) i t).map fun x=>(x,vI (hm (fall ws) i))) where
 nd:=by rw [sG];exact w.nd
 val:=fun n v e=>by
  rw [List.lookup_append] at e
  cases e2:ps.lookup n with
  | some u =>
   rw [e2] at e
   have:u=v:=Option.some.inj e
   rw [←this];exact h.val n u e2
  | none =>
   rw [e2] at e
   obtain ⟨h1,h2⟩:=yZ (show _=some v from e)
   obtain ⟨j,_,rfl⟩:=bJ.mp h2
   rw [h1,b.Xj]
 all:=fun n hn=>by
  rw [sG]
  by_cases e:n=i
  ·subst e
   by_cases e2:t=0
   ·subst e2;exact hc
   ·exact List.mem_append_right _ (bJ.mpr ⟨0,by omega,rfl⟩)
  ·exact List.mem_append_left _ (h.all n (by omega))
 le:=fun n hn=>by
  rw [sG] at hn
  rcases List.mem_append.mp hn with z | z
  ·exact h.le n z
  ·obtain ⟨j,_,rfl⟩:=bJ.mp z
   exact Px b (by omega) j
theorem Xl {ws:List Nat} (b:Bk ws) {i j t M:Nat} (nd:(path (fall ws) i t).Nodup) (hj:j<t) (e:it (fall ws) i j=it (fall ws) i t) (hM:M∈(path (fall ws) i t).drop j) (hmin:∀ x∈(path (fall ws) i t).drop j,M≤x):hm (fall ws) i=M:=by
 obtain ⟨s,h3,h4⟩:=yV hM
 have hR:fZ (fall ws) i (WQ ((path (fall ws) i t).drop j) s) j:=⟨t,s,⟨nd,bJ.mpr ⟨j,hj,e⟩⟩,hj,e,⟨M,h3,hmin,h4⟩,rfl⟩
 obtain ⟨L,h⟩:=hR.hmR
 refine Nat.le_antisymm (h.low M ((Fv _ _).mem_iff.mpr hM)) (hmin _ ((Fv _ _).mem_iff.mp (h.fj 0)))
end My
namespace My
open PySem L2
theorem Py (us:List Nat) (s:Nat):nq us 0 1 s=us.count s:=by
 unfold nq
 induction us with
 | nil=>rfl
 | cons x r ih =>
  rw [List.map_cons,List.sum_cons,ih,List.count_cons,Nat.zero_add]
  by_cases e:s=x
  ·subst e;rw [if_pos rfl,beq_self_eq_true,if_pos rfl];omega
  ·rw [if_neg e,show (x == s)=false by simpa using fun z:x=s=>e z.symm];simp
theorem Bc (ws:List Nat) (lo p q s:Nat):cin ws lo (p+q) s=cin ws lo p s+cin ws (lo+p) q s:=by
 unfold cin
 rw [Jq]
 congr 1
 exact iB fun i _=>by rw [Nat.add_assoc]
theorem FQ (us:List Nat) (G:Nat→Nat):∀ d,d≤us.length→tot d (fun i=>G (us.getD i 0))=((us.take d).map G).sum
 | 0,_=>rfl
 | d+1,h=>by
  have hx:us[d]? = some (us[d]'(by omega)):=List.getElem?_eq_getElem (by omega)
  rw [fu,FQ us G d (by omega),List.take_add_one,hx,List.map_append,List.sum_append,List.getD_eq_getElem?_getD,hx]
  simp
theorem Xm {ws:List Nat} (hb:2≤ws.length) {x d:Nat} (hx:1≤x) (hd:d≤ws.length) (s:Nat):cin ws (x*ws.length) d s=nq (ws.take d) (fall ws x) 1 s:=by
 unfold cin nq
 rw [←FQ ws (fun w=>if s=fall ws x+w then 1 else 0) d hd]
 refine iB fun i hi=>?_
 rw [FN hb hx (by omega)]
 show _=if s=fall ws x+wt ws i then 1 else 0
 by_cases e:fall ws x+wt ws i=s
 ·rw [if_pos e,if_pos e.symm]
 ·rw [if_neg e,if_neg fun z=>e z.symm]
theorem Xn {ws:List Nat} (hb:2≤ws.length) {d:Nat} (hd:d≤ws.length) (s:Nat):cin ws 1 (d - 1) s=nq (ws.tail.take (d - 1)) 0 1 s:=by
 unfold cin nq
 rw [←FQ ws.tail (fun w=>if s=0+w then 1 else 0) (d - 1) (by rw [List.length_tail];omega)]
 refine iB fun i hi=>?_
 rw [yQ (by omega)]
 have e1:wt ws (1+i)=ws.tail.getD i 0:=by
  unfold wt
  cases ws with
  | nil=>simp at hb
  | cons x r=>rw [Nat.add_comm 1 i];rfl
 rw [e1,Nat.zero_add]
 by_cases e:ws.tail.getD i 0=s
 ·rw [if_pos e,if_pos e.symm]
 ·rw [if_neg e,if_neg fun z=>e z.symm]
theorem Xo {ws:List Nat} (hb:2≤ws.length) {N d:Nat} (hN:1≤N) (hd:d≤ws.length) (s:Nat):cin ws 1 (N*ws.length+d - 1) s=sh (cin ws 1 (N - 1)) ws s+nq ws.tail 0 1 s+nq (ws.take d) (fall ws N) 1 s:=by
 have e1:N*ws.length=(N - 1)*ws.length+ws.length:=by
  have:N=N - 1+1:=by omega
  conv=>lhs;rw [this]
  rw [Nat.add_mul,Nat.one_mul]
 rw [show N*ws.length+d - 1=(ws.length - 1)+((N - 1)*ws.length+d) by omega,Bc,Bc,Xa hb,←Py,show 1+(ws.length - 1)=ws.length by omega]
 have h2:=Sw hb (lo:=1) (Nat.le_refl _) s (N - 1)
 rw [Nat.one_mul] at h2
 rw [h2,show ws.length+(N - 1)*ws.length=N*ws.length by omega,Xm hb hN hd]
 omega
theorem Xp {ws:List Nat} {lo m s:Nat} (h:∀ i,i<m→fall ws (lo+i)≠s):cin ws lo m s=0:=by
 unfold cin
 rw [iB (G:=fun _=>0) (fun i hi=>if_neg (h i hi)),Fz]
theorem SN {ws:List Nat} (b:Bk ws) {lo m n s:Nat} (hn:1≤n) (h:lo+m≤ws.length ^ n) (hs:50*n<s):cin ws lo m s=0:=Xp fun i hi z=>by
 have:=vg b.two b.le (n:=n) (x:=lo+i) hn (by omega)
 omega
theorem SQ {ws:List Nat} (hb:2≤ws.length) (lim s:Nat):cin ws 0 lim s=(if 0<lim then (if s=wt ws 0 then 1 else 0) else 0)+cin ws 1 (lim - 1) s:=by
 by_cases e:0<lim
 ·have:lim=1+(lim - 1):=by omega
  conv=>lhs;rw [this]
  rw [Bc,if_pos e]
  congr 1
  show cin ws 0 (0+1) s=_
  rw [FJ,yX,Nat.zero_add,yQ (by omega)]
  by_cases e2:wt ws 0=s
  ·rw [if_pos e2,if_pos e2.symm]
  ·rw [if_neg e2,if_neg fun z=>e2 z.symm]
 ·rw [if_neg e,show lim=0 by omega];rfl
def cnt (ws:List Nat) (lim M:Nat):Nat:=tot lim (fun n=>if hm (fall ws) n=M then 1 else 0)
theorem M8 (ws:List Nat) (lim M:Nat):cnt ws (lim+1) M=cnt ws lim M+if hm (fall ws) lim=M then 1 else 0:=fu _ _
theorem FW (G:Nat→Nat) (x:Nat):∀ n,tot n (fun s=>if x=s then G s else 0)=if x<n then G x else 0
 | 0=>rfl
 | n+1=>by
  rw [fu,FW G x n]
  by_cases e:x=n
  ·subst e;rw [if_neg (by omega),if_pos rfl,if_pos (by omega)];omega
  ·rw [if_neg e]
   by_cases e2:x<n
   ·rw [if_pos e2,if_pos (by omega)];rfl
   ·rw [if_neg e2,if_neg (by omega)]
def cby (ws:List Nat) (lim i M:Nat):Nat:=tot i (fun s=>if hm (fall ws) s=M then cin ws 0 lim s else 0)
theorem M9 (ws:List Nat) (lim i M:Nat):cby ws lim (i+1) M=cby ws lim i M+if hm (fall ws) i=M then cin ws 0 lim i else 0:=fu _ _
theorem SX {ws:List Nat} (b:Bk ws) (L M:Nat):∀ lim,(∀ n,n<lim→fall ws n<L)→cby ws lim L M=cnt ws lim M
 | 0,_=>by
  unfold cby
  rw [iB (G:=fun _=>0) (fun s _=>by rw [yX];split <;> rfl),Fz];rfl
 | lim+1,h=>by
  rw [M8,←SX b L M lim (fun n hn=>h n (by omega))]
  unfold cby
  have e:∀ s,(if hm (fall ws) s=M then cin ws 0 (lim+1) s else 0)=(if hm (fall ws) s=M then cin ws 0 lim s else 0)+if fall ws lim=s then (if hm (fall ws) s=M then 1 else 0) else 0:=fun s=>by
   rw [FJ,Nat.zero_add]
   by_cases e1:hm (fall ws) s=M
   ·rw [if_pos e1,if_pos e1,if_pos e1]
   ·rw [if_neg e1,if_neg e1,if_neg e1];split <;> rfl
  rw [iB (fun s _=>e s),Zh,FW,if_pos (h lim (by omega)),b.Kg]
def ix (ws:List Nat) (M:Nat):Nat:=(cH ws).idxOf M
theorem Xq {ws:List Nat} {M:Nat} (h:M∈cH ws):(cH ws)[ix ws M]? = some M:=by
 unfold ix
 rw [List.getElem?_eq_getElem (List.idxOf_lt_length_of_mem h),List.getElem_idxOf]
theorem aay {ws:List Nat} {M:Nat} (h:M∈cH ws):ix ws M<(cH ws).length:=List.idxOf_lt_length_of_mem h
theorem Pz {l:List Nat} (nd:l.Nodup) {j M:Nat} (h:l[j]? = some M) (F:Nat→V) (v:V):(l.map F).set j v=l.map (fun x=>if x=M then v else F x):=by
 refine List.ext_getElem? fun i=>?_
 rw [List.getElem?_set,List.length_map,List.getElem?_map,List.getElem?_map]
 have hj:j<l.length:=(List.getElem?_eq_some_iff.mp h).1
 by_cases e:j=i
 ·subst e
  rw [if_pos rfl,if_pos hj,h];simp
 ·rw [if_neg e]
  cases q:l[i]? with
  | none=>rfl
  | some x =>
   have:x≠M:=fun z=>e (iz nd h (by rw [q,z]))
   simp [this]
def lps (ws:List Nat) (j:Nat):List (Nat×V):=(List.range j).map fun i=>((cH ws).getD i 0,vI i)
theorem Zr (ws:List Nat) (j:Nat):(lps ws j).length=j:=by unfold lps;rw [List.length_map,List.length_range]
theorem Nb (ws:List Nat) (j:Nat):lps ws (j+1)=lps ws j++[((cH ws).getD j 0,vI j)]:=by unfold lps;rw [List.range_succ,List.map_append];rfl
theorem Xr {ws:List Nat} {j:Nat} (h:j≤(cH ws).length):(lps ws j).map (·.1)=(cH ws).take j:=by
 unfold lps
 rw [List.map_map]
 refine List.ext_getElem? fun i=>?_
 rw [List.getElem?_map]
 by_cases e:i<j
 ·rw [List.getElem?_range e,List.getElem?_take_of_lt e,List.getElem?_eq_getElem (by omega)]
  show some ((cH ws).getD i 0)=_
  rw [List.getD_eq_getElem?_getD,List.getElem?_eq_getElem (by omega)];rfl
 ·rw [List.getElem?_eq_none (by rw [List.length_range];omega),List.getElem?_eq_none (by rw [List.length_take];omega)];rfl
theorem S5 {ws:List Nat} {j M:Nat} (h:(cH ws)[j]? = some M):(lps ws j).lookup M=none:=by
 have hj:j<(cH ws).length:=(List.getElem?_eq_some_iff.mp h).1
 refine dG ?_
 rw [Xr (by omega)]
 intro z
 obtain ⟨i,hi,e⟩:=List.mem_take_iff_getElem.mp z
 have:=iz (Ew ws) h (by rw [List.getElem?_eq_getElem (show i<(cH ws).length by omega),e])
 omega
theorem S6 {ws:List Nat}:∀ {j:Nat} {M:Nat},j≤(cH ws).length→ix ws M<j→M∈cH ws→(lps ws j).lookup M=some (vI (ix ws M))
 | 0,M,_,h,_=>by omega
 | j+1,M,hj,h,hm=>by
  rw [Nb]
  by_cases e:ix ws M=j
  ·have hM:=Xq hm
   rw [e] at hM
   rw [lookup_append_none (S5 hM),List.lookup_cons,List.getD_eq_getElem?_getD,hM,e]
   simp
  ·exact gW (S6 (by omega) (by omega) hm)
theorem S7 {b:Nat} (hb:2≤b) {rs:List Nat} {d0:Nat} (h0:rs[0]? = some d0) (hd:1≤d0):∀ k,1≤k→k≤rs.length→1≤num b (rs.take k)
 | 0,h,_=>by omega
 | k+1,_,h=>by
  have hx:rs[k]? = some (rs[k]'(by omega)):=List.getElem?_eq_getElem (by omega)
  rw [Fq hx]
  by_cases e:k=0
  ·subst e
   rw [h0] at hx
   have:=Option.some.inj hx
   omega
  ·have ih:=S7 hb h0 hd k (by omega) (by omega)
   have:1*1≤num b (rs.take k)*b:=Nat.mul_le_mul ih (by omega)
   omega
theorem S8 {b:Nat} (hb:2≤b) {rs:List Nat} (h:∀ d∈rs,d<b) (k:Nat) (hk:k≤rs.length):num b (rs.take k)<b ^ k:=by
 have:=WL hb (rs.take k).reverse (fun d hd=>h d (List.mem_of_mem_take (List.mem_reverse.mp hd)))
 rw [List.length_reverse,List.length_take,Nat.min_eq_left hk] at this
 exact this
end My
namespace My
open PySem L2
theorem Zt {xs:List V} {d:Nat} (h1:1≤xs.length) (h:d≤xs.length):uU xs (some (1:Int)) (some (d:Int))=xs.tail.take (d - 1):=by
 unfold uU
 rw [show (1:Int)=((1:Nat):Int) from rfl,HT.rR,HT.rR,Nat.min_eq_left h1,Nat.min_eq_left h,List.drop_one]
end My
namespace My
open PySem L2
theorem S9 {xs:List V} (h1:1≤xs.length):uU xs (some (1:Int)) none=xs.tail:=by
 rw [show (1:Int)=((1:Nat):Int) from rfl,qP h1,List.drop_one]
theorem Jv {n:Nat} {p:Prop} (h:1≤n):¬ (HT.jx n 0 (some (1:Int))=0∧p):=by
 rw [show (1:Int)=((1:Nat):Int) from rfl,HT.rR];omega
end My
namespace My
open PySem L2
theorem Jw:∀ l:List Nat,(List.replicate l.length [V.int 0]).flatten=l.map fun _=>vI 0
 | []=>rfl
 | x::r=>by rw [List.length_cons,List.replicate_succ,List.flatten_cons,Jw r,List.map_cons];rfl
end My
namespace My
open PySem L2
def Hx (ws:List Nat) (n:Nat):List Int:=(List.range n).map fun i=>((hm (fall ws) i:Nat):Int)
theorem abG (ws:List Nat) (n:Nat):(Hx ws n).map V.int=(List.range n).map fun i=>vI (hm (fall ws) i):=by unfold Hx;rw [List.map_map];rfl
theorem Xu (ws:List Nat) (n:Nat):(Hx ws n).length=n:=by unfold Hx;rw [List.length_map,List.length_range]
theorem Nf {ws:List Nat} (b:Bk ws) {n:Nat} {k:Int} (h:k∈Hx ws n):k∈(cH ws).map fun d:Nat=>(d:Int):=by
 unfold Hx at h
 obtain ⟨i,_,rfl⟩:=List.mem_map.mp h
 exact List.mem_map_of_mem (b.Kh i)
theorem Xv {ws:List Nat} (b:Bk ws) {n:Nat} {ms:List Int} (nd:ms.Nodup) (h:∀ k,k∈ms→k∈Hx ws n):ms.length<128:=by
 have:=Pr ms ((cH ws).map fun d:Nat=>(d:Int)) nd (fun k hk=>Nf b (h k hk))
 rw [List.length_map] at this
 have:=b.few
 omega
theorem Xw {ws:List Nat} (b:Bk ws) {n:Nat} (hn:∀ M∈cH ws,M<n) {out:List Int} (hs:out.Pairwise (· < ·)) (hm':∀ k,k∈out ↔ k∈Hx ws n):out=(cH ws).map fun d:Nat=>(d:Int):=by
 refine Kl (lt:=fun a b:Int=>a<b) (fun a=>Int.lt_irrefl a) (fun a b h z=>by omega) hs (List.pairwise_map.mpr ((vh ws).imp fun {x y} h=>by show (x:Int)<y;omega)) fun z=>⟨fun hz=>Nf b ((hm' z).mp hz),fun hz=>?_⟩
 obtain ⟨M,hM,rfl⟩:=List.mem_map.mp hz
 refine (hm' _).mpr ?_
 unfold Hx
 refine List.mem_map.mpr ⟨M,List.mem_range.mpr (hn M hM),?_⟩
 rw [(b.nu M).mp hM]
theorem Zu {ws:List Nat} {M:Nat} (h:M∈cH ws):M<451:=by
 unfold cH at h
 exact List.mem_range.mp (List.mem_filter.mp h).1
theorem wX (l:List Nat):(l.map fun d:Nat=>(d:Int)).map V.int=l.map vI:=by rw [List.map_map];rfl
end My
namespace My
open PySem L2
end My
namespace My
open PySem L2
theorem bw.len {f:Nat→Nat} {R:List Nat} {M L:Nat} (h:bw f R M L):R.length=L:=by rw [h.eq,bh]
end My
namespace My
open PySem L2
end My
namespace L2
open PySem PySem.Spec PyProof.Rows
theorem aaz {κ:Type}:∀ {kvs:List (κ×V)} {vs:List (κ×Value)},KV kvs vs→∀ {j:Nat} {kv:κ×V} {k:κ} {u:Value},kvs[j]? = some kv→vs[j]? = some (k,u)→RelV kv.2 u
 | _,_,.nil,j,kv,k,u,e,_=>by simp at e
 | _,_,.cons h r,j,kv,k,u,e1,e2=>by
  cases j with
  | zero =>
   rw [List.getElem?_cons_zero] at e1 e2
   cases e1;cases e2
   exact h.2
  | succ j =>
   rw [List.getElem?_cons_succ] at e1 e2
   exact aaz r e1 e2
def Zv (r d:Addr):HO:=.ext fun h=>h.IsValuesView r d
section
variable {X:Cx} {K:PySem.W.Frag}
def Tc:V→List V→Hp→VK→Prop:=fun x vs H Q=>∃ (d:Addr) (kvs:List (Key×V)),x=.ref d∧vs=[]∧H d=some (.dK kvs)∧∀ r,H r=none→Q (.ref r) (upd H r (Zv r d))
theorem Uu:MtM X "dict.values" Tc:=by
 intro pins s σ H x vs v us Q I rx rv h
 obtain ⟨d,kvs,rfl,rfl,hH,q⟩:=h
 cases rx
 have hus:=rv.zero
 subst hus
 obtain ⟨hz,lo,ks,rel,dd⟩:=dk_of I.hok hH
 refine call_meetsIn F.slot_dict_values dd.typeIs F.entry_dict_values (F.args_dict_values_1 _) (meets_dict_values (mixKind X.prog X.w) d lo) ⟨⟨ks,dd⟩,?_⟩
 have g:(s.heap.push { cls:=.type "dict_values",data:=.fields #[.ref d] }).get? s.heap.objs.size=some { cls:=.type "dict_values",data:=.fields #[.ref d] }:=Heap.get?_push_size _ rfl
 refine ⟨.ref s.heap.objs.size,_,I.laid (t':=s.toks) (o:=Zv s.heap.objs.size d) (fun b o e=>Heap.get?_push_of_some _ e) (Nat.le_refl _) ⟨⟨_,g,rfl,rfl⟩,⟨_,g⟩,fun h1 h2 x k=>?_⟩,rfl,q _ (I.hok.fresh (Nat.le_refl _))⟩
 obtain ⟨o,ho,r⟩:=x
 exact ⟨o,k o ho,r⟩
def Xx:List V→Hp→VK→Prop:=fun xs H Q=>∃ (r d:Addr) (kvs:List (Key×V)),xs=[.ref r]∧H r=some (Zv r d)∧H d=some (.dK kvs)∧∀ l,H l=none→Q (.ref l) (upd H l (.lst (kvs.map (·.2))))
theorem PB (hc:X.calm=true):CallR X (.type "list") Xx:=by
 intro pins s σ H xs us Q I r h
 obtain ⟨r',d,kvs,rfl,hr,ha,q⟩:=h
 obtain ⟨u,rfl,rx⟩:=vals1 r
 cases rx
 obtain ⟨hv,_,_⟩:=(show ObjOk X.prog X.w H s.heap r' (Zv r' d) from I.hok r' _ hr)
 obtain ⟨hz,lo,ks,rel,dd⟩:=dk_of I.hok ha
 obtain ⟨ep,hat⟩:=dd.dictAt
 have hlen:=rel.length
 refine PySem.W.kdl_call (PySem.W.kdl_values (knd:=mixKind X.prog X.w) (r:=r') (d:=d) (kvs:=ks) (ep:=ep)) (I.ok.hd hc) ⟨hv,hat⟩ (by omega) fun h' tk acc' c' hk hS hacc=>?_
 have hvs:Vals (kvs.map (·.2)) acc'.toList:=by
  refine Ke (by have h9:=hacc.1;simp only [List.length_map,Array.length_toList];omega) fun j x u e1 e2=>?_
  rw [Array.getElem?_toList] at e2
  obtain ⟨k,e3⟩:=hacc.2 j u e2
  rw [List.getElem?_map,Option.map_eq_some_iff] at e1
  obtain ⟨kv,e4,rfl⟩:=e1
  exact aaz rel e4 e3
 refine ⟨.ref s.heap.objs.size,_,I.laid (t':=tk) hk (Nat.le_refl _) (show ObjOk X.prog X.w _ h' _ (.lst _) from ⟨by rw [List.length_map];exact hz,acc'.toList,c',hvs,?_⟩),rfl,q _ (I.hok.fresh (Nat.le_refl _))⟩
 simpa using hS
theorem Xy {d:Addr} {H:Hp} {Q:VK} {kvs:List (Key×V)} (hd:H d=some (.dK kvs)) (q:∀ (l:Addr) H2,H l=none→H2 l=some (.lst (kvs.map (·.2)))→Same H H2→Q (.ref l) H2):Tc (.ref d) [] H (fun x H1=>Xx [x] H1 Q):=by
 refine ⟨d,kvs,rfl,rfl,hd,fun r hr=>⟨r,d,kvs,rfl,upd_same,by rw [upd_ne (ne_of_none hd hr)];exact hd,fun l hl=>?_⟩⟩
 have hlr:l≠r:=fun z=>by rw [z,upd_same] at hl;cases hl
 exact q l _ (by rw [upd_ne hlr] at hl;exact hl) upd_same ((Same.new hr).trans (Same.new hl))
theorem Xz {p:Addr} {H:Hp} {kvs:List (Key×V)} (h:H p=some (.dK kvs)):Y0 K "dict" (.ref p) H:=.inr (.inr (.inl ⟨rfl,.inl ⟨kvs,h⟩⟩))
theorem Zw {o i value:Expr} {td ty tv:TE} {op:Operator} {rd:V→V→Hp→VK→Prop} {tpos pos:Pos} (hu:X.A.units+1<cLine) (ho:QE X o td) (hi:QE X i ty) (hv:QE X value tv) (hop:PIp X op rd)
  (ha:∀ ov iv new,augStore i ov iv new=(do holding [new,ov,iv] (setItem ov iv new);release [new,ov,iv] [];pure .next):=by intros;rfl):QS X (.AugAssign (.Subscript o i tpos) op value pos) (Q8 td ty tv rd):=⟨Y6 hu ho.h hi.h hv.h hop ha⟩
theorem Te (td ty tv:TE) (rd:V→V→Hp→VK→Prop) (D:Ends) (σ:St) (H:Hp):Q8 td ty tv rd D σ H=td σ H fun x H1=>ty σ H1 fun y H2=>Ja x fun a=>∃ v,DGet H2 a y (some v)∧tv σ H2 fun y2 H3=>rd v y2 H3 fun z H4=>∃ H5,DPut H4 a y z H5∧D.nx σ H5:=by
 unfold Q8 Ja
 congr;funext x H1;congr;funext y H2
 exact propext ⟨fun ⟨a,v,e,h⟩=>⟨a,e,v,h⟩,fun ⟨a,e,v,h⟩=>⟨a,v,e,h⟩⟩
end
end L2
namespace My
open PySem L2
theorem xX {F:Nat→V} {M:Nat}:∀ {l:List Nat},M∈l→(l.map fun x=>(x,F x)).lookup M=some (F M)
 | [],h=>by cases h
 | x::r,h=>by
  rw [List.map_cons,List.lookup_cons]
  by_cases e:M=x
  ·subst e;rw [beq_self_eq_true]
  ·rw [show (M == x)=false by simpa using e]
   exact xX ((List.mem_cons.mp h).resolve_left e)
theorem keys_map (F:Nat→V) (l:List Nat):(l.map fun x=>(x,F x)).map (·.1)=l:=by rw [List.map_map];exact List.map_id _
theorem Zx {l:List Nat} {F:Nat→V} {M:Nat} (h:M∈l) (v:V):putK (wC (l.map fun x=>(x,F x))) (Sum.inl (M:Int)) v=wC (l.map fun x=>(x,if x=M then v else F x)):=by
 have hs:(valV (wC (l.map fun x=>(x,F x))) (Sum.inl (M:Int))).isSome=true:=by rw [dB,xX h];rfl
 unfold putK
 rw [valV_any,if_pos hs]
 unfold wC
 rw [List.map_map,List.map_map,List.map_map]
 refine List.map_congr_left fun x _=>?_
 show (if (Sum.inl (x:Int):Key)=Sum.inl (M:Int) then ((Sum.inl (x:Int):Key),v) else ((Sum.inl (x:Int):Key),F x))=(Sum.inl (x:Int),if x=M then v else F x)
 by_cases e:x=M
 ·rw [if_pos (by rw [e]),if_pos e]
 ·rw [if_neg (fun z=>e (by have:=Sum.inl.inj z;omega)),if_neg e]
theorem XC (F:Nat→V) (l:List Nat):(wC (l.map fun x=>(x,F x))).map (·.2)=l.map F:=by unfold wC;rw [List.map_map,List.map_map];rfl
end My
namespace My
open PySem L2
end My
namespace My
open PySem L2
end My
namespace My
open PySem L2
end My
namespace My
open PySem L2
end My
namespace My
open PySem L2
end My
namespace My
open PySem L2
end My
namespace L2
open PySem PySem.Spec PyProof.Rows PySem.W
section
variable {X:Cx} {K:PySem.W.Frag} {mg:Str→Option Value} {x n y:Str} {C:Addr} {e:Expr} {te:TE} {np cpos pos hp px py spos:Pos} {E:XK} {i j:Nat}
end
end L2
namespace L2
open PySem PySem.Spec PyProof.Rows PySem.W
end L2
namespace My
open PySem L2
theorem Tf (x:Int):∀ l:List Int,inV (.int x) (l.map V.int)=decide (x∈l)
 | []=>by simp [inV]
 | y::r=>by
  have ih:=Tf x r
  unfold inV at ih ⊢
  rw [List.map_cons,List.any_cons,ih]
  by_cases e:y=x
  ·subst e;simp [Q6]
  ·have e1:Q6 (.int y) (.int x)=false:=by simp [Q6];omega
   have e2:¬ x=y:=fun z=>e z.symm
   simp [e1,e2]
theorem Zy {K:PySem.W.Frag} {neg:Bool} {p:Addr} {H:Hp} {Q:VK} {l:List Int} {x:Int} (h:bQ K H p (l.map V.int)) (q:Q (.bl (if neg then !decide (x∈l) else decide (x∈l))) H):rIn K neg (.int x) (.ref p) H Q :=
 ⟨p,_,rfl,h,rfl,by simp [u5],by rw [Tf];exact q⟩
end My
namespace My
open PySem L2
end My
namespace My
open PySem PySem.Spec PyProof.Rows L2
structure BD where
 b:Addr
 bx:Addr
 wl:Addr
 tl:Addr
 wr:Addr
 tr:Addr
 ws:List Nat
 ts:List Addr
 us:List Addr
 ms:List (List Nat)
section
variable {K:PySem.W.Frag} {lab:Addr→Nat} {H H':Hp} {n t m:Nat} {hs dx ds:Nat→Addr} {kv:Nat→List (Key×V)} {ky:Nat→List Str} {B:Nat→BD} {R T hl:Addr}
end
end My
namespace My
open PySem PySem.Spec PyProof.Rows L2
theorem Uv {H H2:Hp} {x dx:Addr} {o1 o2:HO} (f:H x=none) (g:H dx=none) (fr:∀ b o,b≠x→upd (upd H dx o1) x o2 b=some o→H2 b=some o):Same H H2:=fun c o e=>fr c o (ne_of_none e f) (by rw [upd_ne (ne_of_none e f),upd_ne (ne_of_none e g)];exact e)
theorem Bd {H H':Hp} (s:Same H H') {c:Addr} (e:H' c=none):H c=none:=by
 cases z:H c with
 | none=>rfl
 | some o=>rw [s _ _ z] at e;cases e
section
variable {K:PySem.W.Frag} {lab:Addr→Nat} {H H4:Hp} {n t m:Nat} {hs dx ds:Nat→Addr} {kv:Nat→List (Key×V)} {ky:Nat→List Str} {B:Nat→BD} {R T hl:Addr}
end
theorem XD {α:Type} {l:List α} {x y:α} {k:Nat} (h:(l++[x])[k]? = some y):(k<l.length∧l[k]? = some y)∨(k=l.length∧x=y):=by
 rcases Nat.lt_or_ge k l.length with z | z
 ·rw [List.getElem?_append_left z] at h;exact .inl ⟨z,h⟩
 ·rw [List.getElem?_append_right z] at h
  have z2:k - l.length=0:=by
   have:=(List.getElem?_eq_some_iff.mp h).1
   rw [List.length_singleton] at this;omega
  rw [z2] at h
  exact .inr ⟨by omega,Option.some.inj h⟩
section
variable {K:PySem.W.Frag} {lab:Addr→Nat} {H H':Hp} {i n t:Nat} {x:BD}
end
end My
namespace My
open PySem PySem.Spec PyProof.Rows L2
section
variable {K:PySem.W.Frag} {lab:Addr→Nat} {H H':Hp} {n t:Nat} {h dx d:Addr} {kv:List (Key×V)} {nm:Str} {x y:BD}
end
end My
namespace My
open PySem PySem.Spec PyProof.Rows L2
section
variable {K:PySem.W.Frag} {lab:Addr→Nat} {H H':Hp} {n:Nat→Nat} {t:Nat} {h dx d:Addr} {kv:List (Key×V)} {nm:Nat→Str} {B:Nat→BD} {m:Nat}
end
end My
namespace L2
open PySem PySem.Spec PyProof.Rows PySem.W
theorem Good.alias {P:Program} {w:World} {K:PySem.W.Frag} {mg:Str→Option Value} {base:Heap} {CX:CXT} {k:Nat} {x y:Str} {ps:List Str} {sp:Sp} (g:Good P w K mg base CX k x ps sp) (h:mg y=mg x):Good P w K mg base CX k y ps sp:=by
 obtain ⟨f,fd,F,hm,hk,hb⟩:=g
 exact ⟨f,fd,F,h.trans hm,hk,hb⟩
theorem aN.dead {P:Program} {w:World} {K:PySem.W.Frag} {mg:Str→Option Value} {base:Heap} {CX:CXT} {k:Nat} {x:Str} {st:Stmt} {ps:List Str} (F:aN K mg x st ps):Good P w K mg base CX k x ps (fun _ _ _ _=>False):=by
 obtain ⟨f,fd,F,hm,hb⟩:=F
 exact ⟨f,fd,⟨fun _ _ _ _ h=>h.elim,fun _ _ _ _ _ _ _ _ _ _ _ _ _ h=>h.elim⟩,hm,F.kp,hb⟩
end L2
namespace L2
open PySem PySem.Spec PyProof.Rows PySem.W PySem.Builtin.Str
end L2
namespace My
open PySem PySem.Spec PyProof.Rows L2
theorem acS {ws:List Nat} (h:2≤ws.length):ws.set 1 9=[wt ws 0,9]++ws.drop 2:=by
 match ws,h with
 | a::b::r,_=>rfl
def ch (z:Str):List Nat:=z.cps.toList
end My
namespace L2
open PySem PySem.Spec PyProof.Rows PySem.W
section
variable {X:Cx}
end
end L2
namespace My
open PySem PySem.Spec PyProof.Rows L2
section
variable {K:PySem.W.Frag} {H H':Hp} {h dx d KL RD:Addr} {kv rv:List (Key×V)} {ks:List Str} {t:Nat}
end
end My
namespace My
open PySem PySem.Spec PyProof.Rows L2
section
variable {K:PySem.W.Frag} {lab:Addr→Nat} {H H':Hp} {n:Nat→Nat} {t:Nat} {h dx d Nn Rd Td:Addr} {m:Nat} {B:Nat→BD} {ks:List Nat}
end
section
variable {K:PySem.W.Frag} {lab:Addr→Nat} {H H':Hp} {n:Nat→Nat} {t:Nat} {h dx d Nn Rd Td:Addr} {m:Nat} {B:Nat→BD} {ks:List Nat}
end
end My
namespace L2
open PySem PySem.Spec PyProof.Rows PySem.W
section
variable {X:Cx} {pins:List (Addr×Obj)} {σ:St} {H:Hp} {s:Shared} {A:Around} {E:Value→Shared→Prop} {Q:Value→Shared→Prop} {b:Bool}
theorem PJ {x:V} {u:Value} {t:String} {p:Addr} {its:List Value} (I:Inv X pins σ H s) (rx:RelV x u) (ty:Fe H x=some t) (hp:IsTup s.heap p its.toArray) (e:kitAny X.K (.type t) its=some b) (h:∀ tk,Q (.bool b) { s with toks:=tk }) :
  wpAny (model X.prog X.w) A (call (.builtin "isinstance") [u,.ref p]) Q E s:=by
 obtain ⟨o,h1,h2,n,h3⟩:=hp
 obtain ⟨oc,od,odt,os⟩:=o
 cases h2
 have h3:odt=.seq its.toArray n:=h3
 subst h3
 have ty:=VG (K:=X.K) ty
 generalize hT:Value.type t=T at ty
 rw [hT] at e
 cases ty with
 | non=>cases (show u=Value.none from rx);exact kia_tup kitx_none I.kIn True.intro h1 e (fun z=>nomatch z) h
 | bl y=>cases (show u=Value.bool y from rx);exact kia_tup kitx_bool I.kIn True.intro h1 e (fun z=>nomatch z) h
 | int i=>obtain ⟨t,q⟩:=(show ∃ t,u=Value.int i t from rx);cases q;exact kia_tup kitx_int I.kIn True.intro h1 e (fun z=>nomatch z) h
 | str y=>obtain ⟨t,q⟩:=(show ∃ t,u=Value.str y t from rx);cases q;exact kia_tup kitx_str I.kIn True.intro h1 e (fun z=>nomatch z) h
 | flt y=>obtain ⟨t,q⟩:=(show ∃ t,u=Value.float y t from rx);cases q;exact kia_tup kitx_float I.kIn True.intro h1 e (fun z=>nomatch z) h
 | @lst a xs ea =>
  cases (show u=Value.ref a from rx)
  obtain ⟨_,_,n,_,h1'⟩:=(show ObjOk X.prog X.w H s.heap a (.lst xs) from I.hok a _ ea)
  exact kia_tup kitx_list I.kIn ⟨_,h1',rfl⟩ h1 e (fun z=>nomatch z) h
 | @frz a ob xs ea =>
  cases (show u=Value.ref a from rx)
  obtain ⟨_,_,_,n,_,h1'⟩:=(show ObjOk X.prog X.w H s.heap a (.frz ob (.lst xs)) from I.hok a _ ea)
  exact kia_tup kitx_list I.kIn ⟨_,h1',rfl⟩ h1 e (fun z=>nomatch z) h
 | @tup a xs ea =>
  cases (show u=Value.ref a from rx)
  obtain ⟨_,_,_,p⟩:=(show ObjOk X.prog X.w H s.heap a (.tup xs) from I.hok a _ ea)
  obtain ⟨o,h1',h2',_⟩:=p
  exact kia_tup kitx_tuple I.kIn ⟨o,h1',h2'⟩ h1 e (fun z=>nomatch z) h
 | @dK a kvs ea =>
  cases (show u=Value.ref a from rx)
  obtain ⟨_,_,vs,_,p⟩:=(show ObjOk X.prog X.w H s.heap a (.dK kvs) from I.hok a _ ea)
  obtain ⟨o,es,ep,h1',h2',_⟩:=p
  exact kia_tup kitx_dict I.kIn ⟨o,h1',h2'.1⟩ h1 e (fun z=>nomatch z) h
 | @dT a kvs ea =>
  cases (show u=Value.ref a from rx)
  obtain ⟨_,_,xs,_,o,es,ep,h1',h2',_⟩:=(show ObjOk X.prog X.w H s.heap a (.dT kvs) from I.hok a _ ea)
  exact kia_tup kitx_dict I.kIn ⟨o,h1',h2'.1⟩ h1 e (fun z=>nomatch z) h
 | @ins a C dx fs ea cl ha hn htk hm=>cases hT
def aaA:List V→Hp→VK→Prop:=fun xs H Q=>∃ x t p b1 b2,xs=[x,.ref p]∧H p=some (.tup [.ty "list",.ty "tuple"])∧Fe H x=some t∧gn t "list" = some b1∧gn t "tuple" = some b2∧Q (.bl (b1 || b2)) H
theorem jC:CallR X (.builtin "isinstance") aaA:=by
 intro pins s σ H xs us Q I r h
 obtain ⟨x,t,p,b1,b2,rfl,hp,h1,h2,h3,q⟩:=h
 obtain ⟨u,u2,rfl,r1,r2⟩:=vals2 r
 obtain rfl:u2=Value.ref p:=r2
 obtain ⟨_,its,rv,it⟩:=(show ObjOk X.prog X.w H s.heap p (.tup [.ty "list",.ty "tuple"]) from I.hok p _ hp)
 obtain ⟨v1,v2,rfl,e1,e2⟩:=vals2 rv
 obtain rfl:v1=Value.type "list":=e1
 obtain rfl:v2=Value.type "tuple":=e2
 refine PJ I r1 h1 it ?_ fun tk=>⟨.bl (b1 || b2),H,I.tok _,rfl,q⟩
 unfold kitAny
 rw [Fg h2]
 cases b1 with
 | true=>rfl
 | false =>
  show kitAny X.K (.type t) [.type "tuple"]=_
  unfold kitAny
  rw [Fg h3]
  cases b2 with
  | true=>rfl
  | false=>rfl
end
end L2
namespace My
open PySem PySem.Spec PyProof.Rows L2
def lV:V→Bool
 | .non=>true
 | .int _=>true
 | .str _=>true
 | _=>false
def Ct:Nat→Type
 | 0=>V
 | n+1=>V ⊕ (Bool×List (Ct n))
def vm (b:Bool) (xs:List V):HO:=if b then .lst xs else .tup xs
def Rp (P:Addr→Prop):(n:Nat)→Hp→V→Ct n→Prop
 | 0,_,v,c=>v=c∧lV v=true
 | _+1,_,v,.inl c=>v=c∧lV v=true
 | n+1,H,v,.inr (b,cs)=>∃ (a:Addr) (xs:List V),v=.ref a∧P a∧H a=some (vm b xs)∧xs.length=cs.length∧xs.length≤60000∧∀ (i:Nat) (x:V) (c:Ct n),xs[i]? = some x→cs[i]? = some c→Rp P n H x c
theorem Rp.move {P P':Addr→Prop} {H H':Hp} (hP:∀ a,P a→P' a) (s:∀ a o,P a→H a=some o→H' a=some o):∀ {n:Nat} {v:V} {c:Ct n},Rp P n H v c→Rp P' n H' v c
 | 0,_,_,h=>h
 | _+1,_,.inl _,h=>h
 | n+1,_,.inr (b,cs),h=>by
  obtain ⟨a,xs,e,p,e1,e2,e3,e4⟩:=h
  exact ⟨a,xs,e,hP a p,s _ _ p e1,e2,e3,fun i x c q1 q2=>Rp.move hP s (e4 i x c q1 q2)⟩
theorem Rp.same {P:Addr→Prop} {H H':Hp} (s:Same H H') {n:Nat} {v:V} {c:Ct n} (h:Rp P n H v c):Rp P n H' v c:=h.move (fun _ p=>p) fun a o _ e=>s _ _ e
theorem dD {K:PySem.W.Frag} {H:Hp} {a:Addr} {b:Bool} {xs:List V} (h:H a=some (vm b xs)):bQ K H a xs:=by
 cases b with
 | true=>exact bQ.of h
 | false=>exact bQ.ofT h
theorem iQ {H:Hp} {a:Addr} {b:Bool} {xs:List V} (h:H a=some (vm b xs)):Fe H (.ref a)=some (if b then "list" else "tuple"):=by
 cases b with
 | true=>show (match H a with | some (.lst _)=>some "list" | some (.frz _ (.lst _))=>some "list" | some (.tup _)=>some "tuple" | some (.dK _)=>some "dict" | _=>none)=_;rw [h];rfl
 | false=>show (match H a with | some (.lst _)=>some "list" | some (.frz _ (.lst _))=>some "list" | some (.tup _)=>some "tuple" | some (.dK _)=>some "dict" | _=>none)=_;rw [h];rfl
def PK (m:Nat) (H:Hp) (a:Addr):Prop:=∃ b xs,H a=some (vm b xs)∧xs.length≤m∧∀ x∈xs,lV x=true
def Sp1 (P:Addr→Prop) (m:Nat) (H:Hp) (v:V):Prop:=lV v=true∨∃ a,v=.ref a∧(P a∨∃ xs,H a=some (.tup xs))∧PK m H a
def Sp2 (P:Addr→Prop) (m:Nat) (H:Hp) (v:V):Prop:=∃ a b xs,v=.ref a∧P a∧H a=some (vm b xs)∧xs.length≤60000∧∀ x∈xs,Sp1 P m H x
def wY (P:Addr→Prop) (H H':Hp):Prop:=∀ c o,¬ P c→H c=some o→H' c=some o
theorem wY.trans {P:Addr→Prop} {H H1 H2:Hp} (f:wY P H H1) (g:wY P H1 H2):wY P H H2:=fun c o n e=>g c o n (f c o n e)
theorem wY.same {P:Addr→Prop} {H H':Hp} (s:Same H H'):wY P H H':=fun c o _ e=>s _ _ e
end My
namespace L2
open PySem PySem.Spec
theorem za {x:V} {c:String} {b:Bool} {H:Hp} {Q:VK} (h:Lx H x c=some b) (q:Q (.bl b) H):J0 [x,.ty c] H Q:=by rw [yN];exact ⟨b,h,q⟩
theorem cN {x:V} {c t:String} {b:Bool} {H:Hp} (h:Fe H x=some t) (h2:gn t c=some b):Lx H x c=some b:=by unfold Lx;rw [h];exact h2
theorem nD {x:V} {p:Addr} {t:String} {b1 b2:Bool} {H:Hp} {Q:VK} (hp:H p=some (.tup [.ty "list",.ty "tuple"])) (h1:Fe H x=some t) (h2:gn t "list" = some b1) (h3:gn t "tuple" = some b2) (q:Q (.bl (b1 || b2)) H):aaA [x,.ref p] H Q:=⟨x,t,p,b1,b2,rfl,hp,h1,h2,h3,q⟩
end L2
namespace L2
open PySem PySem.Spec PyProof.Rows
theorem Wu.at {K:PySem.W.Frag} {a:Addr} {te:TE} {σ:St} {H:Hp} {Q:VK} {xs:List V} (hS:bQ K H a xs) (hlen:xs.length<sizeLine) (Pv:Addr→Nat→List V→Hp→Prop) (h0:∀ D,H D=none→Pv D 0 [] (upd H D (.lst [])))
  (hs:∀ (D:Addr) (i:Nat) (x:V) (ys:List V) (H2:Hp) (R:VK),xs[i]? = some x→H D=none→H2 D=some (.lst ys)→ys.length=i→Pv D i ys H2→Same H H2→(∀ y H3,H3 D=some (.lst ys)→Same H H3→Pv D (i+1) (ys++[y]) (upd H3 D (.lst (ys++[y])))→R y H3)→te (some x::σ) H2 R)
  (hd:∀ D ys H2,H D=none→H2 D=some (.lst ys)→ys.length=xs.length→Pv D xs.length ys H2→Same H H2→Q (.ref D) H2):Wu K a te σ H Q:=by
 have W:∀ (D:Addr),H D=none→∀ (J:It),(∀ i H2,Same H H2→xs.length≤i→J.stop i H2)→(∀ i x H2,Same H H2→xs[i]? = some x→J.go i H2)→(∀ i H2 x H',Same H H2→J.yld i H2 x H'→H' = H2∧xs[i]? = some x) →
   ∃ W:Nat→Nat→Hp→Prop,(∃ m,W 0 m (upd H D (.lst [])))∧∀ i m H2,W i m H2 →
    (J.stop i H2∧Q (.ref D) H2)∨(J.go i H2∧∀ x H',J.yld i H2 x H'→te (some x::σ) H' fun y H3=>∃ ys,H3 D=some (.lst ys)∧ys.length<sizeLine∧∃ m',m'<m∧W (i+1) m' (upd H3 D (.lst (ys++[y])))):=by
  intro D hD J j1 j2 j3
  refine ⟨fun i m H2=>m=xs.length - i∧i≤xs.length∧∃ ys,ys.length=i∧H2 D=some (.lst ys)∧Pv D i ys H2∧Same H H2,⟨xs.length,by simp,Nat.zero_le _,[],rfl,upd_same,h0 D hD,Same.new hD⟩,?_⟩
  rintro i m H2 ⟨rfl,hi,ys,hys,hD2,hP,hsm⟩
  by_cases hlt:i<xs.length
  ·refine .inr ⟨j2 i xs[i] H2 hsm (by simp [hlt]),fun x H' hy=>?_⟩
   obtain ⟨rfl,hx⟩:=j3 i H2 x H' hsm hy
   refine hs D i x ys _ _ hx hD hD2 hys hP hsm fun y H3 hD3 h3 hP3=>⟨ys,hD3,by omega,xs.length - (i+1),by omega,rfl,hlt,ys++[y],by simp [hys],upd_same,hP3,fun b o e=>?_⟩
   rw [upd_ne (ne_of_none e hD)]
   exact h3 _ _ e
  ·have e:i=xs.length:=by omega
   subst e
   exact .inl ⟨j1 _ _ hsm (Nat.le_refl _),hd D ys H2 hD hD2 hys hP hsm⟩
 rcases hS with h | h
 ·refine .inl ⟨⟨xs,h⟩,fun D hD=>W D hD (Itl K a) (fun i H2 hs hi=>⟨xs,hs.seq h,hi⟩) (fun i x H2 hs hx=>⟨xs,x,hs.seq h,hx⟩) fun i H2 x H' hs hy=>⟨hy.1,hy.2 xs (hs.seq h)⟩⟩
 ·refine .inr ⟨⟨xs,h⟩,fun D hD=>W D hD (Iv K a) (fun i H2 hs hi=>⟨xs,hs.Ar h,hi⟩) (fun i x H2 hs hx=>⟨xs,x,hs.Ar h,hx⟩) fun i H2 x H' hs hy=>⟨hy.1,hy.2 xs (hs.Ar h)⟩⟩
end L2
namespace My
open PySem PySem.Spec PyProof.Rows L2
theorem wG {K:PySem.W.Frag} {a:Addr} {te:TE} {σ:L2.St} {H:Hp} {R:VK} {xs:List V} {n:Nat} {cs:List (Ct n)} (hS:bQ K H a xs) (hl:xs.length=cs.length) (hb:xs.length≤60000) (hxa:∀ (i:Nat) (x:V) (c:Ct n),xs[i]? = some x→cs[i]? = some c→Rp (fun _=>True) n H x c)
  (hte:∀ (x:V) (c:Ct n) (H2:Hp) (S:VK),Rp (fun _=>True) n H2 x c→(∀ w H3,Same H2 H3→Rp (fun a=>H2 a=none) n H3 w c→S w H3)→te (some x::σ) H2 S)
  (hR:∀ (D:Addr) (ys:List V) H2,H D=none→Same H H2→H2 D=some (.lst ys)→ys.length=cs.length→(∀ (i:Nat) (y:V) (c:Ct n),ys[i]? = some y→cs[i]? = some c→Rp (fun a=>H a=none) n H2 y c)→R (.ref D) H2):Wu K a te σ H R:=by
 refine Wu.at hS (aX (by omega)) (fun D i ys H2=>∀ (j:Nat) (y:V) (c:Ct n),ys[j]? = some y→cs[j]? = some c→Rp (fun a=>H a=none∧a≠D) n H2 y c) (fun D _ j y c e=>nomatch e) (fun D i x ys H2 S hx fD hD2 hys hP s2 hS2=>?_) fun D ys H2 fD hD2 hys hP s2=>?_
 ·have hi:i<xs.length:=(List.getElem?_eq_some_iff.mp hx).1
  obtain ⟨c,hc⟩:∃ c,cs[i]? = some c:=⟨_,List.getElem?_eq_getElem (by omega)⟩
  refine hte x c H2 S ((hxa i x c hx hc).same s2) fun w H3 s3 hw=>hS2 w H3 (s3 _ _ hD2) (s2.trans s3) fun j y c' hy hc'=>?_
  have st:∀ {v:V} {c:Ct n},Rp (fun a=>H a=none∧a≠D) n H3 v c→Rp (fun a=>H a=none∧a≠D) n (upd H3 D (.lst (ys++[w]))) v c:=fun h=>h.move (fun _ p=>p) fun b o p e=>by rw [upd_ne p.2];exact e
  rcases XD hy with ⟨_,hy⟩ | ⟨hj,hy⟩
  ·exact st ((hP j y c' hy hc').same s3)
  ·subst hy
   rw [hj,hys,hc] at hc'
   obtain rfl:=Option.some.inj hc'
   refine st (hw.move (fun b p=>⟨Bd s2 p,fun z=>by rw [z,hD2] at p;cases p⟩) fun b o _ e=>e)
 ·exact hR D ys H2 fD s2 hD2 (by omega) fun i y c hy hc=>(hP i y c hy hc).move (fun b p=>p.1) fun b o _ e=>e
end My
namespace My
open PySem PySem.Spec PyProof.Rows L2
def ci (x:V):Ct 1:=.inl x
def Zz (xs:List V):Ct 2:=.inr (true,xs.map ci)
def XF (b:Bool) (xs:List V):Ct 1:=.inr (b,xs)
def Bf (H H':Hp) (v:V) (c:Ct 2):Prop:=Rp (fun b=>H b=none∨∃ xs,H b=some (.tup xs)) 2 H' v c∧∃ a,v=.ref a∧H a=none
theorem Bf.flat {H H':Hp} {a:Addr} {xs:List V} (fa:H a=none) (ha:H' a=some (.lst xs)) (hl:xs.length≤60000) (hf:∀ x∈xs,lV x=true):Bf H H' (.ref a) (Zz xs):=by
 refine ⟨⟨a,xs,rfl,.inl fa,ha,by rw [List.length_map],hl,fun i x c h1 h2=>?_⟩,a,rfl,fa⟩
 rw [List.getElem?_map,h1] at h2
 obtain rfl:=Option.some.inj h2
 exact ⟨rfl,hf x (List.mem_of_getElem? h1)⟩
theorem Rp.Ng {P:Addr→Prop} {H:Hp} {a:Addr} {b:Bool} {xs:List V} (pa:P a) (ha:H a=some (vm b xs)) (hl:xs.length≤60000) (hf:∀ x∈xs,lV x=true):Rp P 1 H (.ref a) (XF b xs) :=
 ⟨a,xs,rfl,pa,ha,rfl,hl,fun i x c h1 h2=>⟨Option.some.inj (h1.symm.trans (show xs[i]? = some (show V from c) from h2)),hf x (List.mem_of_getElem? h1)⟩⟩
theorem Bf.sp {H H' H2:Hp} {v:V} {c:Ct 2} (s:Same H H') (s2:Same H' H2) (h:Bf H H' v c):Sp2 (fun b=>H b=none∧H' b≠none) 60000 H2 v:=by
 obtain ⟨hr,a,rfl,fa⟩:=h
 rcases c with c | ⟨b,cs⟩
 ·obtain ⟨_,hf⟩:=hr;cases hf
 obtain ⟨a',xs,e,_,ha,hl,hb,hx⟩:=hr
 obtain rfl:=V.ref.inj e
 refine ⟨a,b,xs,rfl,⟨fa,by rw [ha];exact fun z=>nomatch z⟩,s2 _ _ ha,hb,fun x Jx=>?_⟩
 obtain ⟨i,hi⟩:=List.mem_iff_getElem?.mp Jx
 have hil:i<xs.length:=(List.getElem?_eq_some_iff.mp hi).1
 obtain ⟨c,hc⟩:∃ c,cs[i]? = some c:=⟨_,List.getElem?_eq_getElem (by omega)⟩
 have hr:=hx i x c hi hc
 rcases c with c | ⟨b1,ds⟩
 ·exact .inl hr.2
 ·obtain ⟨r,ys,rfl,pr,hr',hl',hb',hy⟩:=hr
  refine .inr ⟨r,rfl,?_,b1,ys,s2 _ _ hr',hb',fun y Tg=>?_⟩
  ·rcases pr with z | ⟨zs,z⟩
   ·exact .inl ⟨z,by rw [hr'];exact fun z=>nomatch z⟩
   ·exact .inr ⟨zs,s2 _ _ (s _ _ z)⟩
  ·obtain ⟨j,hj⟩:=List.mem_iff_getElem?.mp Tg
   have hjl:j<ys.length:=(List.getElem?_eq_some_iff.mp hj).1
   obtain ⟨d,hd⟩:∃ d,ds[j]? = some d:=⟨_,List.getElem?_eq_getElem (by omega)⟩
   exact (hy j y d hj hd).2
structure Rgz (ws:List Nat) (Rs:List (List Int)):Prop where
 ring:∀ R∈Rs,∃ R' M L,bw (fall ws) R' M L∧R=R'.map (fun d:Nat=>(d:Int))
 heads:Rs.map (fun R=>R.headD 0)=(cH ws).map (fun d:Nat=>(d:Int))
theorem Rgz.uniq {ws:List Nat} {Rs Rs':List (List Int)} (h:Rgz ws Rs) (h':Rgz ws Rs'):Rs=Rs':=by
 have hh:=h.heads.trans h'.heads.symm
 have hl:Rs.length=Rs'.length:=by have:=congrArg List.length hh;rw [List.length_map,List.length_map] at this;exact this
 refine List.ext_getElem? fun i=>?_
 by_cases hi:i<Rs.length
 ·obtain ⟨R,hR⟩:∃ R,Rs[i]? = some R:=⟨_,List.getElem?_eq_getElem hi⟩
  obtain ⟨S,hS⟩:∃ S,Rs'[i]? = some S:=⟨_,List.getElem?_eq_getElem (by omega)⟩
  have e:R.headD 0=S.headD 0:=by
   have:=congrArg (·[i]?) hh
   simp only [List.getElem?_map,hR,hS,Option.map_some] at this
   exact Option.some.inj this
  obtain ⟨R',M,L,r1,rfl⟩:=h.ring R (List.mem_of_getElem? hR)
  obtain ⟨S',M2,L2,r2,rfl⟩:=h'.ring S (List.mem_of_getElem? hS)
  have hd:∀ {R:List Nat} {M L:Nat},bw (fall ws) R M L→(R.map (fun d:Nat=>(d:Int))).headD 0=(M:Int):=fun {R M L} r=>by
   have:=r.head
   cases R with
   | nil=>cases this
   | cons x y=>obtain rfl:=Option.some.inj this;rfl
  rw [hd r1,hd r2] at e
  obtain rfl:M=M2:=by omega
  rw [hR,hS,(r1.uniq r2 (n:=M) (i:=0) (i':=0) (r1.fj 0) (r2.fj 0)).1]
 ·rw [List.getElem?_eq_none (by omega),List.getElem?_eq_none (by omega)]
def Is (wh:Nat) (ws:List Nat) (n len:Nat) (c:Ct 2):Prop :=
 (wh=0∧∃ k,vd (fall ws) n k∧c=Zz ((path (fall ws) n k).map vI))∨(wh=1∧∃ R j,fZ (fall ws) n R j∧c=.inr (false,[XF true (R.map vI),ci (vI j)]))∨(wh=2∧∃ Rs,Rgz ws Rs∧c=.inr (true,Rs.map fun R=>XF true (R.map V.int)))∨((wh=3∨wh=4)∧c=Zz ((cH ws).map fun M=>vI (cnt ws n M)))∨(wh=5∧c=Zz ((tab (50*len+1) (spd ws len)).map vI))∨(wh=6∧c=Zz ((Fx ws (n % 121)).map oV))
theorem Is.uniq {wh:Nat} {ws:List Nat} {n len:Nat} {c c':Ct 2} (h:Is wh ws n len c) (h':Is wh ws n len c'):c=c':=by
 rcases h with ⟨e,k,h1,rfl⟩ | ⟨e,R,j,h1,rfl⟩ | ⟨e,Rs,h1,rfl⟩ | ⟨e,rfl⟩ | ⟨e,rfl⟩ | ⟨e,rfl⟩ <;> rcases h' with ⟨e',k',h2,rfl⟩ | ⟨e',R',j',h2,rfl⟩ | ⟨e',Rs',h2,rfl⟩ | ⟨e',rfl⟩ | ⟨e',rfl⟩ | ⟨e',rfl⟩ <;> first | omega | rfl | skip
 ·rw [h1.uniq h2]
 ·obtain ⟨rfl,rfl⟩:=h1.uniq h2;rfl
 ·rw [h1.uniq h2]
end My
namespace My
open PySem PySem.Spec PyProof.Rows L2
structure Va (K:PySem.W.Frag) (H:Hp) (h dx d ba Km Ds Ko bb Jy Bg CW r p nw:Addr) (ws:List Nat) (w:Nat):Prop where
 hh:H h=some (.ins (mq K "House") dx [("books",.ref d)])
 hd:H d=some (.dK [(.inr "a",.ref ba),(.inr "b",.ref bb)])
 ha:H ba=some (.ins (mq K "Book") Km [("worths",.ref Ds),("told",.ref Ko)])
 hwa:H Ds=some (.lst (ws.map vI))
 hb:H bb=some (.ins (mq K "Book") Jy [("worths",.ref Bg),("told",.ref CW)])
 hwb:H Bg=some (.lst ((ws.set 1 w).map vI))
 htb:H CW=some (.lst ([r].map V.ref))
 hr:H r=some (.tup ([1,wt ws 1,w].map vI))
 hp:H p=some (.lst (ws.map vI))
 hn:H nw=some (.lst ((ws.set 1 w).map vI))
theorem Va.same {K:PySem.W.Frag} {H H':Hp} {h dx d ba Km Ds Ko bb Jy Bg CW r p nw:Addr} {ws:List Nat} {w:Nat} (a:Va K H h dx d ba Km Ds Ko bb Jy Bg CW r p nw ws w) (s:Same H H'):Va K H' h dx d ba Km Ds Ko bb Jy Bg CW r p nw ws w :=
 ⟨s _ _ a.hh,s _ _ a.hd,s _ _ a.ha,s _ _ a.hwa,s _ _ a.hb,s _ _ a.hwb,s _ _ a.htb,s _ _ a.hr,s _ _ a.hp,s _ _ a.hn⟩
theorem Bk.acS {ws:List Nat} (b:Bk ws) {w:Nat} (h:w≤50):Bk (ws.set 1 w):=⟨by rw [List.length_set];exact b.two,by rw [List.length_set];exact b.top,fun x hx=>by
 rcases List.mem_or_eq_of_mem_set hx with z | z
 ·exact b.le x z
 ·omega⟩
end My
namespace My
open PySem PySem.Spec PyProof.Rows L2
theorem Rp.alive {P:Addr→Prop} {H:Hp}:∀ {n:Nat} {v:V} {c:Ct n},Rp P n H v c→Rp (fun b=>P b∧H b≠none) n H v c
 | 0,_,_,h=>h
 | _+1,_,.inl _,h=>h
 | n+1,_,.inr (b,cs),h=>by
  obtain ⟨a,xs,e,p,e1,e2,e3,e4⟩:=h
  exact ⟨a,xs,e,⟨p,by rw [e1];exact fun z=>nomatch z⟩,e1,e2,e3,fun i x c q1 q2=>Rp.alive (e4 i x c q1 q2)⟩
theorem Jz {P:Addr→Prop} {H:Hp}:∀ {xs:List V} {Rs:List (List Int)},xs.length=Rs.length→(∀ (i:Nat) (x:V) (c:Ct 1),xs[i]? = some x→(Rs.map fun R=>XF true (R.map V.int))[i]? = some c→Rp P 1 H x c) →
  ∃ out:List (Addr×List Int),xs=out.map (fun p=>V.ref p.1)∧out.map (·.2)=Rs∧∀ p∈out,H p.1=some (.lst (p.2.map V.int))
 | [],[],_,_=>⟨[],rfl,rfl,fun p hp=>nomatch hp⟩
 | x::xs,R::Rs,hl,h=>by
  obtain ⟨out,e1,e2,e3⟩:=Jz (xs:=xs) (Rs:=Rs) (by simpa using hl) fun i x c h1 h2=>h (i+1) x c h1 h2
  obtain ⟨a,ys,e,_,ha,hl',_,hy⟩:=h 0 x _ rfl rfl
  have ey:ys=R.map V.int:=by
   refine List.ext_getElem? fun i=>?_
   by_cases hi:i<ys.length
   ·obtain ⟨y,hy1⟩:∃ y,ys[i]? = some y:=⟨_,List.getElem?_eq_getElem hi⟩
    have hl2:ys.length=(R.map V.int).length:=hl'
    obtain ⟨c,hc⟩:∃ c,(R.map V.int)[i]? = some c:=⟨_,List.getElem?_eq_getElem (by omega)⟩
    rw [hy1,hc,(hy i y c hy1 hc).1]
   ·have hl2:ys.length=(R.map V.int).length:=hl'
    rw [List.getElem?_eq_none (by omega),List.getElem?_eq_none (by omega)]
  refine ⟨(a,R)::out,by rw [e,e1];rfl,by rw [List.map_cons,e2],fun p hp=>?_⟩
  rcases List.mem_cons.mp hp with rfl | hp
  ·rw [←ey];exact ha
  ·exact e3 p hp
def XH (wh:Nat) (ws:List Nat) (n len:Nat) (mm:List (List Nat)) (kvs:List (Key×V)) (c:Ct 2):Prop :=
 (wh<7∧Is wh ws n len c)∨(7≤wh∧((wh<14∧Is (wh - 7) ws n len c)∨(wh=14∧c=Zz (kvs.map fun kv=>kV kv.1))∨(wh=15∧c=Zz (ws.map vI))∨(wh=16∧c=.inr (true,mm.map fun m=>XF false (m.map vI)))))
theorem XH.uniq {wh:Nat} {ws:List Nat} {n len:Nat} {mm:List (List Nat)} {kvs:List (Key×V)} {c c':Ct 2} (h:XH wh ws n len mm kvs c) (h':XH wh ws n len mm kvs c'):c=c':=by
 rcases h with ⟨e,h⟩ | ⟨e,⟨e1,h⟩ | ⟨e1,rfl⟩ | ⟨e1,rfl⟩ | ⟨e1,rfl⟩⟩ <;> rcases h' with ⟨e',h'⟩ | ⟨e',⟨e1',h'⟩ | ⟨e1',rfl⟩ | ⟨e1',rfl⟩ | ⟨e1',rfl⟩⟩ <;> first | omega | rfl | exact h.uniq h'
theorem Is.two {wh:Nat} {ws:List Nat} {n len:Nat} {c:Ct 2} (h:Is wh ws n len c):∃ b cs,c=.inr (b,cs):=by
 rcases h with ⟨_,k,_,rfl⟩ | ⟨_,R,j,_,rfl⟩ | ⟨_,Rs,_,rfl⟩ | ⟨_,rfl⟩ | ⟨_,rfl⟩ | ⟨_,rfl⟩
 ·exact ⟨_,_,rfl⟩
 ·exact ⟨_,_,rfl⟩
 ·exact ⟨_,_,rfl⟩
 ·exact ⟨_,_,rfl⟩
 ·exact ⟨_,_,rfl⟩
 ·exact ⟨_,_,rfl⟩
theorem XH.two {wh:Nat} {ws:List Nat} {n len:Nat} {mm:List (List Nat)} {kvs:List (Key×V)} {c:Ct 2} (h:XH wh ws n len mm kvs c):∃ b cs,c=.inr (b,cs):=by
 rcases h with ⟨_,h⟩ | ⟨_,⟨_,h⟩ | ⟨_,rfl⟩ | ⟨_,rfl⟩ | ⟨_,rfl⟩⟩
 ·exact h.two
 ·exact h.two
 ·exact ⟨_,_,rfl⟩
 ·exact ⟨_,_,rfl⟩
 ·exact ⟨_,_,rfl⟩
theorem XH.rings {wh:Nat} {ws:List Nat} {n len:Nat} {mm:List (List Nat)} {kvs:List (Key×V)} {c:Ct 2} (h:XH wh ws n len mm kvs c) (hw:wh=2∨wh=9):∃ Rs,Rgz ws Rs∧c=.inr (true,Rs.map fun R=>XF true (R.map V.int)):=by
 have g:∀ {q:Nat},Is q ws n len c→q=2→∃ Rs,Rgz ws Rs∧c=.inr (true,Rs.map fun R=>XF true (R.map V.int)):=fun {q} h e=>by
  rcases h with ⟨e',_⟩ | ⟨e',_⟩ | ⟨_,Rs,h1,h2⟩ | ⟨e',_⟩ | ⟨e',_⟩ | ⟨e',_⟩
  ·omega
  ·omega
  ·exact ⟨Rs,h1,h2⟩
  ·omega
  ·omega
  ·omega
 rcases h with ⟨e,h⟩ | ⟨e,⟨e1,h⟩ | ⟨e1,_⟩ | ⟨e1,_⟩ | ⟨e1,_⟩⟩
 ·exact g h (by omega)
 ·exact g h (by omega)
 ·omega
 ·omega
 ·omega
end My
namespace My
open PySem PySem.Spec PyProof.Rows L2
theorem Sp2.move {P:Addr→Prop} {m:Nat} {H H':Hp} {v:V} (h:Sp2 P m H v) (f:∀ c o,(P c∨∃ xs,o=HO.tup xs)→H c=some o→H' c=some o):Sp2 P m H' v:=by
 obtain ⟨a,b,xs,e,pa,ha,hl,hx⟩:=h
 refine ⟨a,b,xs,e,pa,f _ _ (.inl pa) ha,hl,fun x Jx=>?_⟩
 rcases hx x Jx with z | ⟨r,e,hr,bb,ys,h1,h2,h3⟩
 ·exact .inl z
 ·rcases hr with hr | ⟨zs,hr⟩
  ·exact .inr ⟨r,e,.inl hr,bb,ys,f _ _ (.inl hr) h1,h2,h3⟩
  ·have q:=f _ _ (.inr ⟨zs,rfl⟩) hr
   have e2:vm bb ys=.tup zs:=Option.some.inj (h1.symm.trans hr)
   exact .inr ⟨r,e,.inr ⟨zs,q⟩,bb,ys,by rw [e2];exact q,h2,h3⟩
theorem Va.but {K:PySem.W.Frag} {H H':Hp} {h dx d ba Km Ds Ko bb Jy Bg CW r p nw fo:Addr} {ws:List Nat} {w:Nat} {vs:List V} (a:Va K H h dx d ba Km Ds Ko bb Jy Bg CW r p nw ws w) (hf:H fo=some (.lst vs)) (n:fo≠nw∧fo≠p∧fo≠Ds∧fo≠Bg∧fo≠CW) (s:∀ c o,c≠fo→H c=some o→H' c=some o):Va K H' h dx d ba Km Ds Ko bb Jy Bg CW r p nw ws w:=by
 have ni:∀ {c C x fs},H c=some (HO.ins C x fs)→c≠fo:=fun {c C x fs} e z=>by rw [z,hf] at e;cases e
 exact ⟨s _ _ (ni a.hh) a.hh,s _ _ (fun z=>by have:=a.hd;rw [z,hf] at this;cases this) a.hd,s _ _ (ni a.ha) a.ha,s _ _ (Ne.symm n.2.2.1) a.hwa,s _ _ (ni a.hb) a.hb,s _ _ (Ne.symm n.2.2.2.1) a.hwb,s _ _ (Ne.symm n.2.2.2.2) a.htb,s _ _ (fun z=>by have:=a.hr;rw [z,hf] at this;cases this) a.hr,s _ _ (Ne.symm n.2.1) a.hp,s _ _ (Ne.symm n.1) a.hn⟩
end My
namespace SR
open PySem PyProof.Rows
def ZC:Bool→Keyed→Array Keyed→Nat→Nat→Nat→StateT SortSt Sem (Option Nat):=sortPriv% PySem.Builtin.gallop
def XJ:Array Keyed→Array Keyed→StateT SortSt Sem (Array Keyed):=sortPriv% PySem.Builtin.mergeLo
def XM:Array Keyed→Array Keyed→StateT SortSt Sem (Array Keyed):=sortPriv% PySem.Builtin.mergeHi
section
variable {prog:Program} {w:World} {A:Around} {E:Value→Shared→Prop} {s:Shared} {k:Keyed→Int} {ok:Keyed→Prop}
def Bh (prog:Program) (w:World) (A:Around) (E:Value→Shared→Prop) (s:Shared) (k:Keyed→Int) (ok:Keyed→Prop):Prop :=
 ∀ (x y:Keyed) (st:SortSt) (Q:Option Bool→SortSt→Prop),ok x→ok y→kindOf st=oneType'→Q (some (decide (k x<k y))) st→wpS (model prog w) A E s (lt' x y) Q st
theorem cg {xs:Array Keyed} {i:Nat} {x:Keyed} {st:SortSt} {Q:Keyed→SortSt→Prop} (h:xs[i]? = some x) (q:Q x st):wpS (model prog w) A E s (elem' xs i) Q st:=by
 rw [elem'_eq,h]
 exact wpS_pure q
def rQ (k:Keyed→Int) (left:Bool) (key x:Keyed):Bool:=if left then decide (k x<k key) else !decide (k key<k x)
theorem abH (hL:Bh prog w A E s k ok) {left:Bool} {key x:Keyed} {arr:Array Keyed} {i:Nat} {st:SortSt} {Q:Option Bool→SortSt→Prop} (hx:arr[i]? = some x) (o1:ok x) (o2:ok key) (hk:kindOf st=oneType') (q:Q (some (rQ k left key x)) st) :
  wpS (model prog w) A E s (do
   let y ←elem' arr i
   if left=true then lt' y key else do
    let r ←lt' key y
    pure (Option.map (fun z=>!z) r)) Q st:=by
 refine wpS_bind (cg hx ?_)
 cases left with
 | true =>
  rw [if_pos rfl]
  exact hL _ _ _ _ o1 o2 hk q
 | false =>
  rw [if_neg (by decide)]
  exact wpS_bind (hL _ _ _ _ o2 o1 hk (wpS_pure q))
structure Str (k:Keyed→Int) (ok:Keyed→Prop) (left:Bool) (key:Keyed) (arr:Array Keyed) (base n:Nat) (b:Nat→Bool):Prop where
 at_:∀ i,i<n→∃ x,arr[base+i]? = some x∧ok x∧rQ k left key x=b i
 mono:∀ i j,i≤j→j<n→b j=true→b i=true
theorem mX (hL:Bh prog w A E s k ok) {left:Bool} {key:Keyed} {arr:Array Keyed} {base n hint:Nat} {b:Nat→Bool} {st:SortSt} {Q:Option Nat→SortSt→Prop} (o2:ok key) (hk:kindOf st=oneType') (S:Str k ok left key arr base n b) (hh:hint<n)
  (q:∀ m,m≤n→(∀ i,i<m→b i=true)→(∀ i,m≤i→i<n→b i=false)→Q (some m) st):wpS (model prog w) A E s (ZC left key arr base n hint) Q st:=by
 have ask:∀ (i:Nat) (Q:Option Bool→SortSt→Prop),i<n→Q (some (b i)) st→wpS (model prog w) A E s (do
   let y ←elem' arr (base+i)
   if left=true then lt' y key else do
    let r ←lt' key y
    pure (Option.map (fun z=>!z) r)) Q st:=fun i Q hi q=>by
  obtain ⟨x,h1,h2,h3⟩:=S.at_ i hi
  exact abH hL h1 h2 o2 hk (by rw [h3];exact q)
 refine wpS_bind (ask hint _ hh ?_)
 cases hb:b hint with
 | true =>
  dsimp only
  rw [if_pos rfl]
  refine wpS_bind (wpS_mono (wpS_forRange (I:=fun x c st'=>st' = st∧∃ l o,c=(none,l,o)∧l<o∧x+1≤o∧hint+l<n∧b (hint+l)=true)
   (Q:=fun c st'=>st' = st∧∃ l o,c=(none,l,o)∧l<o∧hint+l<n∧b (hint+l)=true∧(hint+o<n→b (hint+o)=false)) ?_ ?_ ⟨rfl,0,1,rfl,by omega,by omega,hh,hb⟩) ?_)
  ·rintro x c st' _ hx ⟨rfl,l,o,rfl,g1,g2,g3,g4⟩
   dsimp only
   by_cases e:o ≥ n - hint
   ·rw [if_pos e]
    exact wpS_pure ⟨rfl,l,o,rfl,g1,g3,g4,fun z=>by omega⟩
   ·rw [if_neg e]
    refine wpS_bind (ask (hint+o) _ (by omega) ?_)
    cases hb2:b (hint+o) with
    | true=>exact wpS_pure ⟨rfl,o,2*o+1,rfl,by omega,by omega,by omega,hb2⟩
    | false=>exact wpS_pure ⟨rfl,l,o,rfl,g1,g3,g4,fun _=>hb2⟩
  ·rintro c st' ⟨rfl,l,o,rfl,g1,g2,g3,g4⟩
   exact ⟨rfl,l,o,rfl,g1,g3,g4,fun z=>by omega⟩
  ·rintro c st' ⟨rfl,l,o,rfl,g1,g3,g4,g5⟩
   dsimp only
   have B1:hint+l+1≤hint+min o (n - hint):=by omega
   have B2:hint+min o (n - hint)≤n:=by omega
   have B3:∀ i,i<hint+l+1→b i=true:=fun i hi=>S.mono i (hint+l) (by omega) g3 g4
   have B4:∀ i,hint+min o (n - hint)≤i→i<n→b i=false:=fun i hi hn=>by
    by_cases e:o<n - hint
    ·have h5:=g5 (by omega)
     cases hb2:b i with
     | false=>rfl
     | true=>rw [S.mono (hint+o) i (by omega) hn hb2] at h5;cases h5
    ·omega
   refine wpS_bind (wpS_mono (wpS_forRange (I:=fun x c st''=>st'' = st'∧∃ l h,c=(none,l,h)∧l≤h∧h≤n∧h - l≤n - x∧(∀ i,i<l→b i=true)∧∀ i,h≤i→i<n→b i=false)
    (Q:=fun c st''=>st'' = st'∧∃ h,c=(none,h,h)∧h≤n∧(∀ i,i<h→b i=true)∧∀ i,h≤i→i<n→b i=false) ?_ ?_ ⟨rfl,hint+l+1,hint+min o (n - hint),rfl,B1,B2,by omega,B3,B4⟩) ?_)
   ·rintro x c st'' _ hx ⟨rfl,l,h,rfl,g1,g2,g3,g4,g5⟩
    dsimp only
    by_cases e:l ≥ h
    ·rw [if_pos e]
     have:l=h:=by omega
     subst this
     exact wpS_pure ⟨rfl,l,rfl,g2,g4,g5⟩
    ·rw [if_neg e]
     refine wpS_bind (ask _ _ (by omega) ?_)
     cases hb:b (l+(h - l) / 2) with
     | true =>
      exact wpS_pure ⟨rfl,_,_,rfl,by omega,g2,by omega,fun i hi=>S.mono i _ (by omega) (by omega) hb,g5⟩
     | false =>
      refine wpS_pure ⟨rfl,_,_,rfl,by omega,by omega,by omega,g4,fun i hi hn=>?_⟩
      cases hb2:b i with
      | false=>rfl
      | true=>rw [S.mono _ i hi hn hb2] at hb;cases hb
   ·rintro c st'' ⟨rfl,l,h,rfl,g1,g2,g3,g4,g5⟩
    have:l=h:=by omega
    subst this
    exact ⟨rfl,l,rfl,g2,g4,g5⟩
   ·rintro c st'' ⟨rfl,h,rfl,g2,g4,g5⟩
    exact wpS_pure (q h g2 g4 g5)
 | false =>
  dsimp only
  rw [if_neg (by decide)]
  refine wpS_bind (wpS_mono (wpS_forRange (I:=fun x c st'=>st' = st∧∃ l o,c=(none,l,o)∧l<o∧x+1≤o∧l≤hint∧b (hint - l)=false)
   (Q:=fun c st'=>st' = st∧∃ l o,c=(none,l,o)∧l<o∧l≤hint∧b (hint - l)=false∧(o≤hint→b (hint - o)=true)) ?_ ?_ ⟨rfl,0,1,rfl,by omega,by omega,by omega,hb⟩) ?_)
  ·rintro x c st' _ hx ⟨rfl,l,o,rfl,g1,g2,g3,g4⟩
   dsimp only
   by_cases e:o ≥ hint+1
   ·rw [if_pos e]
    exact wpS_pure ⟨rfl,l,o,rfl,g1,g3,g4,fun z=>by omega⟩
   ·rw [if_neg e]
    refine wpS_bind (ask (hint - o) _ (by omega) ?_)
    cases hb2:b (hint - o) with
    | true=>exact wpS_pure ⟨rfl,l,o,rfl,g1,g3,g4,fun _=>hb2⟩
    | false=>exact wpS_pure ⟨rfl,o,2*o+1,rfl,by omega,by omega,by omega,hb2⟩
  ·rintro c st' ⟨rfl,l,o,rfl,g1,g2,g3,g4⟩
   exact ⟨rfl,l,o,rfl,g1,g3,g4,fun z=>by omega⟩
  ·rintro c st' ⟨rfl,l,o,rfl,g1,g3,g4,g5⟩
   dsimp only
   have B1:hint+1 - min o (hint+1)≤hint - l:=by omega
   have B2:hint - l≤n:=by omega
   have B3:∀ i,i<hint+1 - min o (hint+1)→b i=true:=fun i hi=>by
    by_cases e:o≤hint
    ·exact S.mono i (hint - o) (by omega) (by omega) (g5 e)
    ·omega
   have B4:∀ i,hint - l≤i→i<n→b i=false:=fun i hi hn=>by
    cases hb2:b i with
    | false=>rfl
    | true=>rw [S.mono (hint - l) i (by omega) hn hb2] at g4;cases g4
   refine wpS_bind (wpS_mono (wpS_forRange (I:=fun x c st''=>st'' = st'∧∃ l h,c=(none,l,h)∧l≤h∧h≤n∧h - l≤n - x∧(∀ i,i<l→b i=true)∧∀ i,h≤i→i<n→b i=false)
    (Q:=fun c st''=>st'' = st'∧∃ h,c=(none,h,h)∧h≤n∧(∀ i,i<h→b i=true)∧∀ i,h≤i→i<n→b i=false) ?_ ?_ ⟨rfl,hint+1 - min o (hint+1),hint - l,rfl,B1,B2,by omega,B3,B4⟩) ?_)
   ·rintro x c st'' _ hx ⟨rfl,l,h,rfl,g1,g2,g3,g4,g5⟩
    dsimp only
    by_cases e:l ≥ h
    ·rw [if_pos e]
     have:l=h:=by omega
     subst this
     exact wpS_pure ⟨rfl,l,rfl,g2,g4,g5⟩
    ·rw [if_neg e]
     refine wpS_bind (ask _ _ (by omega) ?_)
     cases hb:b (l+(h - l) / 2) with
     | true =>
      exact wpS_pure ⟨rfl,_,_,rfl,by omega,g2,by omega,fun i hi=>S.mono i _ (by omega) (by omega) hb,g5⟩
     | false =>
      refine wpS_pure ⟨rfl,_,_,rfl,by omega,by omega,by omega,g4,fun i hi hn=>?_⟩
      cases hb2:b i with
      | false=>rfl
      | true=>rw [S.mono _ i hi hn hb2] at hb;cases hb
   ·rintro c st'' ⟨rfl,l,h,rfl,g1,g2,g3,g4,g5⟩
    have:l=h:=by omega
    subst this
    exact ⟨rfl,l,rfl,g2,g4,g5⟩
   ·rintro c st'' ⟨rfl,h,rfl,g2,g4,g5⟩
    exact wpS_pure (q h g2 g4 g5)
end
end SR
namespace SR
open PySem PyProof.Rows
def jw (k:Keyed→Int) (l:List Keyed):Prop:=l.Pairwise fun x y=>k x<k y
structure Good (k:Keyed→Int) (la lb res:List Keyed):Prop where
 pm:res.Perm (la++lb)
 st:jw k res
structure MI (k:Keyed→Int) (la lb out:List Keyed) (ia ib:Nat):Prop where
 ha:ia≤la.length
 hb:ib≤lb.length
 pm:out.Perm (la.take ia++lb.take ib)
 st:jw k out
 oa:∀ x∈out,∀ y∈la.drop ia,k x<k y
 ob:∀ x∈out,∀ y∈lb.drop ib,k x<k y
section
variable {k:Keyed→Int} {la lb out:List Keyed} {ia ib m:Nat} {x:Keyed}
theorem CZ {l:List Keyed} {i j:Nat} {y:Keyed} (h:y∈l.drop j) (hij:i≤j):y∈l.drop i:=by
 have:l.drop j=(l.drop i).drop (j - i):=by rw [List.drop_drop];congr 1;omega
 rw [this] at h
 exact List.mem_of_mem_drop h
theorem Nh (l:List Keyed) (i m:Nat):l.take (i+m)=l.take i++(l.drop i).take m:=List.take_add
theorem MI.XQ (h:MI k la lb out ia ib) (sa:jw k la) (hm:ia+m≤la.length) (hlt:∀ x∈(la.drop ia).take m,∀ y∈lb.drop ib,k x<k y):MI k la lb (out++(la.drop ia).take m) (ia+m) ib where
 ha:=hm
 hb:=h.hb
 pm:=by
  rw [Nh,List.append_assoc]
  refine (h.pm.append_right _).trans ?_
  rw [List.append_assoc]
  exact List.Perm.append_left _ List.perm_append_comm
 st:=by
  have s1:jw k ((la.drop ia).take m):=(sa.sublist ((List.take_sublist _ _).trans (List.drop_sublist _ _)))
  exact List.pairwise_append.mpr ⟨h.st,s1,fun x hx y hy=>h.oa x hx y (List.mem_of_mem_take hy)⟩
 oa:=fun x hx y hy=>by
  rcases List.mem_append.mp hx with z | z
  ·exact h.oa x z y (CZ hy (by omega))
  ·have e:la.drop ia=(la.drop ia).take m++la.drop (ia+m):=by
    conv=>lhs;rw [←List.take_append_drop m (la.drop ia),List.drop_drop]
   have s2:jw k (la.drop ia):=sa.sublist (List.drop_sublist _ _)
   rw [e] at s2
   exact (List.pairwise_append.mp s2).2.2 x z y hy
 ob:=fun x hx y hy=>by
  rcases List.mem_append.mp hx with z | z
  ·exact h.ob x z y hy
  ·exact hlt x z y hy
theorem MI.XR (h:MI k la lb out ia ib) (sb:jw k lb) (hm:ib+m≤lb.length) (hlt:∀ x∈(lb.drop ib).take m,∀ y∈la.drop ia,k x<k y):MI k la lb (out++(lb.drop ib).take m) ia (ib+m) where
 ha:=h.ha
 hb:=hm
 pm:=by
  rw [Nh,←List.append_assoc]
  exact h.pm.append_right _
 st:=by
  have s1:jw k ((lb.drop ib).take m):=(sb.sublist ((List.take_sublist _ _).trans (List.drop_sublist _ _)))
  exact List.pairwise_append.mpr ⟨h.st,s1,fun x hx y hy=>h.ob x hx y (List.mem_of_mem_take hy)⟩
 oa:=fun x hx y hy=>by
  rcases List.mem_append.mp hx with z | z
  ·exact h.oa x z y hy
  ·exact hlt x z y hy
 ob:=fun x hx y hy=>by
  rcases List.mem_append.mp hx with z | z
  ·exact h.ob x z y (CZ hy (by omega))
  ·have e:lb.drop ib=(lb.drop ib).take m++lb.drop (ib+m):=by
    conv=>lhs;rw [←List.take_append_drop m (lb.drop ib),List.drop_drop]
   have s2:jw k (lb.drop ib):=sb.sublist (List.drop_sublist _ _)
   rw [e] at s2
   exact (List.pairwise_append.mp s2).2.2 x z y hy
theorem zc {l:List Keyed} {i:Nat} {x:Keyed} (hx:l[i]? = some x):(l.drop i).take 1=[x]:=by
 obtain ⟨h,e⟩:=List.getElem?_eq_some_iff.mp hx
 rw [List.drop_eq_getElem_cons h,e]
 rfl
theorem MI.JB (h:MI k la lb out ia ib) (sa:jw k la) (hx:la[ia]? = some x) (hlt:∀ y∈lb.drop ib,k x<k y):MI k la lb (out++[x]) (ia+1) ib:=by
 have:=h.XQ (m:=1) sa (by have:=(List.getElem?_eq_some_iff.mp hx).1;omega) (by
  rw [zc hx];intro z hz;rw [List.mem_singleton.mp hz];exact hlt)
 rw [zc hx] at this
 exact this
theorem MI.Ni (h:MI k la lb out ia ib) (sb:jw k lb) (hx:lb[ib]? = some x) (hlt:∀ y∈la.drop ia,k x<k y):MI k la lb (out++[x]) ia (ib+1):=by
 have:=h.XR (m:=1) sb (by have:=(List.getElem?_eq_some_iff.mp hx).1;omega) (by
  rw [zc hx];intro z hz;rw [List.mem_singleton.mp hz];exact hlt)
 rw [zc hx] at this
 exact this
theorem MI.fin (h:MI k la lb out ia ib) (sa:jw k la) (sb:jw k lb) {r:List Keyed} (hr:r.Perm (la.drop ia++lb.drop ib)) (sr:jw k r):Good k la lb (out++r) where
 pm:=by
  refine (h.pm.append hr).trans ?_
  have e1:(la.take ia++lb.take ib++(la.drop ia++lb.drop ib)).Perm ((la.take ia++la.drop ia)++(lb.take ib++lb.drop ib)):=by
   rw [List.append_assoc,List.append_assoc]
   refine List.Perm.append_left _ ?_
   rw [←List.append_assoc,←List.append_assoc]
   exact List.Perm.append_right _ List.perm_append_comm
  rw [List.take_append_drop,List.take_append_drop] at e1
  exact e1
 st:=List.pairwise_append.mpr ⟨h.st,sr,fun x hx y hy=>by
  rcases List.mem_append.mp (hr.mem_iff.mp hy) with z | z
  ·exact h.oa x hx y z
  ·exact h.ob x hx y z⟩
theorem MI.done (h:MI k la lb out ia ib) (sa:jw k la) (sb:jw k lb) (e:ib=lb.length∨ia=la.length):Good k la lb (out++la.drop ia++lb.drop ib):=by
 rw [List.append_assoc]
 refine h.fin sa sb (List.Perm.refl _) ?_
 rcases e with rfl | rfl
 ·rw [List.drop_length,List.append_nil];exact sa.sublist (List.drop_sublist _ _)
 ·rw [List.drop_length,List.nil_append];exact sb.sublist (List.drop_sublist _ _)
theorem MI.acW (h:MI k la lb out ia ib) (sa:jw k la) (sb:jw k lb) (hl:∀ x,la[la.length - 1]? = some x→∀ y∈lb,k y<k x) (e:ia+1=la.length):Good k la lb (out++lb.drop ib++la.drop ia):=by
 rw [List.append_assoc]
 refine h.fin sa sb List.perm_append_comm ?_
 refine List.pairwise_append.mpr ⟨sb.sublist (List.drop_sublist _ _),sa.sublist (List.drop_sublist _ _),fun y hy x hx=>?_⟩
 have hlen:ia<la.length:=by omega
 rw [List.drop_eq_getElem_cons hlen,show ia+1=la.length from e,List.drop_length,List.mem_singleton] at hx
 subst hx
 refine hl _ ?_ y (List.mem_of_mem_drop hy)
 rw [show la.length - 1=ia by omega,List.getElem?_eq_getElem hlen]
theorem vo {l:List Keyed} (h:jw k l) {i j:Nat} {x y:Keyed} (hi:l[i]? = some x) (hj:l[j]? = some y) (hij:i<j):k x<k y:=by
 obtain ⟨h1,e1⟩:=List.getElem?_eq_some_iff.mp hi
 obtain ⟨h2,e2⟩:=List.getElem?_eq_some_iff.mp hj
 rw [←e1,←e2]
 exact List.pairwise_iff_getElem.mp h i j h1 h2 hij
theorem vp {l:List Keyed} {i:Nat} {y:Keyed} (h:y∈l.drop i):∃ j,i≤j∧l[j]? = some y:=by
 obtain ⟨j,hj⟩:=List.mem_iff_getElem?.mp h
 rw [List.getElem?_drop] at hj
 exact ⟨i+j,by omega,hj⟩
theorem FZ {l:List Keyed} {i m:Nat} {y:Keyed} (h:y∈(l.drop i).take m):∃ j,j<m∧l[i+j]? = some y:=by
 obtain ⟨j,hj⟩:=List.mem_iff_getElem?.mp h
 rw [List.getElem?_take] at hj
 split at hj
 ·rename_i hlt
  rw [List.getElem?_drop] at hj
  exact ⟨j,hlt,hj⟩
 ·cases hj
theorem wH {l:List Keyed} (h:jw k l) {i:Nat} {x y:Keyed} {c:Int} (hi:l[i]? = some x) (hc:c<k x) (hy:y∈l.drop i):c<k y:=by
 obtain ⟨j,hj,e⟩:=vp hy
 by_cases z:i=j
 ·subst z;rw [hi] at e;cases e;exact hc
 ·have:=vo h hi e (by omega);omega
end
end SR
namespace SR
open PySem PyProof.Rows
theorem Nj (a:Array Keyed) (i:Nat):(a.extract i a.size).toList=a.toList.drop i:=by
 rw [Array.toList_extract,List.extract_eq_take_drop,←Array.length_toList,List.take_of_length_le (by rw [List.length_drop];exact Nat.le_refl _)]
theorem Ti (a:Array Keyed) (i m:Nat):(a.extract i (i+m)).toList=(a.toList.drop i).take m:=by
 rw [Array.toList_extract,List.extract_eq_take_drop,Nat.add_sub_cancel_left]
theorem Nk (out a b:Array Keyed) (i j:Nat):(out++a.extract i a.size++b.extract j b.size).toList=out.toList++a.toList.drop i++b.toList.drop j:=by
 rw [Array.toList_append,Array.toList_append,Nj,Nj]
theorem zf (out:Array Keyed) (x:Keyed):(out.push x).toList=out.toList++[x]:=Array.toList_push
theorem Tj (out a:Array Keyed) (i m:Nat):(out++a.extract i (i+m)).toList=out.toList++(a.toList.drop i).take m:=by rw [Array.toList_append,Ti]
structure Alike (st st':SortSt):Prop where
 kd:kindOf st' = kindOf st
 ar:arrOf st' = arrOf st
 pd:pendingOf st' = pendingOf st
 fl:failedOf st' = failedOf st
theorem Alike.refl (st:SortSt):Alike st st:=⟨rfl,rfl,rfl,rfl⟩
theorem Alike.trans {a b c:SortSt} (h:Alike a b) (g:Alike b c):Alike a c:=⟨g.kd.trans h.kd,g.ar.trans h.ar,g.pd.trans h.pd,g.fl.trans h.fl⟩
theorem d9 {a:Array Keyed} {i:Nat} (h:i<a.size):∃ x,a[i]? = some x∧a.toList[i]? = some x∧x∈a.toList:=by
 refine ⟨a[i],by simp [h],by simp [h],by simp⟩
section
variable {prog:Program} {w:World} {A:Around} {E:Value→Shared→Prop} {s:Shared} {k:Keyed→Int} {ok:Keyed→Prop}
theorem str_mk {arr:Array Keyed} {left:Bool} {key:Keyed} {base n:Nat} (sa:jw k arr.toList) (XS:∀ x∈arr.toList,ok x) (h:base+n≤arr.size):Str k ok left key arr base n (fun i=>(arr[base+i]?).elim false (rQ k left key)) where
 at_:=fun i hi=>by
  obtain ⟨x,h1,h2,h3⟩:=d9 (a:=arr) (i:=base+i) (by omega)
  exact ⟨x,h1,XS x h3,by rw [h1];rfl⟩
 mono:=fun i j hij hj hb=>by
  obtain ⟨x,h1,h2,h3⟩:=d9 (a:=arr) (i:=base+i) (by omega)
  obtain ⟨y,g1,g2,g3⟩:=d9 (a:=arr) (i:=base+j) (by omega)
  have hxy:k x≤k y:=by
   by_cases e:i=j
   ·subst e;rw [h1] at g1;cases g1;exact Int.le_refl _
   ·exact Int.le_of_lt (vo sa h2 g2 (by omega))
  rw [h1]
  rw [g1] at hb
  show rQ k left key x=true
  have hb':rQ k left key y=true:=hb
  unfold rQ at hb' ⊢
  cases left with
  | true =>
   rw [if_pos rfl] at hb' ⊢
   have:=of_decide_eq_true hb'
   exact decide_eq_true (by omega)
  | false =>
   rw [if_neg (by decide)] at hb' ⊢
   have h5:¬ k key<k y:=by simpa using hb'
   have:¬ k key<k x:=by omega
   simpa using this
def Kp (k:Keyed→Int) (a b:Array Keyed) (st:SortSt) (p m:Nat) (r:ForInStep (Option (Array Keyed)×Array Keyed×Nat×Nat×Nat×Nat×Nat)) (st':SortSt):Prop:=match r with
 | .done c'=>Alike st st'∧((∃ (r out:Array Keyed) (i' j' mg ac bc:Nat),c' = (some r,out,i',j',mg,ac,bc)∧Good k a.toList b.toList r.toList)∨∃ (out:Array Keyed) (i' j' mg ac bc:Nat),c' = (none,out,i',j',mg,ac,bc)∧MI k a.toList b.toList out.toList i' j'∧i'+1<a.size∧j'<b.size∧p≤i'+j')
 | .yield c'=>∃ (out:Array Keyed) (i' j' mg ac bc:Nat),c' = (none,out,i',j',mg,ac,bc)∧MI k a.toList b.toList out.toList i' j'∧i'+1<a.size∧j'<b.size∧p+(m+1)≤i'+j'∧Alike st st'
theorem PL (hL:Bh prog w A E s k ok) {a b:Array Keyed} {st:SortSt} {Q:Array Keyed→SortSt→Prop} (hk:kindOf st=oneType') (XS:∀ x∈a.toList,ok x) (okb:∀ x∈b.toList,ok x) (sa:jw k a.toList) (sb:jw k b.toList)
  (dis:∀ x∈a.toList,∀ y∈b.toList,k x≠k y) (na:0<a.size) (nb:0<b.size) (h0:∀ x y,a.toList[0]? = some x→b.toList[0]? = some y→k y<k x) (hl:∀ x,a.toList[a.toList.length - 1]? = some x→∀ y∈b.toList,k y<k x)
  (q:∀ r st',Good k a.toList b.toList r.toList→Alike st st'→Q r st'):wpS (model prog w) A E s (XJ a b) Q st:=by
 have hla:a.toList.length=a.size:=Array.length_toList
 have hlb:b.toList.length=b.size:=Array.length_toList
 have wZ:∀ (out:Array Keyed) (i j:Nat),MI k a.toList b.toList out.toList i j→(j=b.size∨i=a.size)→Good k a.toList b.toList (out++a.extract i a.size++b.extract j b.size).toList:=fun out i j h e=>by
  rw [Nk];exact h.done sa sb (by omega)
 have Ga:∀ (out:Array Keyed) (i j:Nat),MI k a.toList b.toList out.toList i j→i+1=a.size→Good k a.toList b.toList (out++b.extract j b.size++a.extract i a.size).toList:=fun out i j h e=>by
  rw [Nk];exact h.acW sa sb hl (by omega)
 obtain ⟨b0,hb0,abI,afq⟩:=d9 nb
 have M0:MI k a.toList b.toList (#[b0]:Array Keyed).toList 0 1:=by
  refine ⟨Nat.zero_le _,by omega,?_,List.pairwise_singleton _ _,fun x hx y hy=>?_,fun x hx y hy=>?_⟩
  ·rw [List.take_zero,List.nil_append]
   have:=zc abI
   rw [List.drop_zero] at this
   rw [this]
  ·have:x=b0:=by simpa using hx
   subst this
   obtain ⟨a0,_,ha0,_⟩:=d9 na
   exact wH sa ha0 (h0 a0 x ha0 abI) hy
  ·have:x=b0:=by simpa using hx
   subst this
   obtain ⟨j,hj,e⟩:=vp hy
   exact vo sb abI e (by omega)
 refine wpS_bind (wpS_lift (wpAny_rule ⟨rfl,?_⟩))
 extract_lets
 refine wpS_bind (cg hb0 ?_)
 show wpS _ _ _ _ (if (1 == b.size)=true then _ else if (0+1 == a.size)=true then _ else _) _ _
 by_cases e1:1=b.size
 ·rw [if_pos (by simpa using e1)]
  exact wpS_pure (q _ _ (wZ _ _ _ M0 (.inl e1)) (Alike.refl _))
 rw [if_neg (by simpa using e1)]
 by_cases e2:0+1=a.size
 ·rw [if_pos (by simpa using e2)]
  exact wpS_pure (q _ _ (Ga _ _ _ M0 e2) (Alike.refl _))
 rw [if_neg (by simpa using e2)]
 refine wpS_bind (wpS_get ?_)
 refine wpS_bind (wpS_mono (wpS_forRange (I:=fun n c st'=>∃ (out:Array Keyed) (i j mg:Nat),c=(none,out,i,j,mg)∧MI k a.toList b.toList out.toList i j∧i+1<a.size∧j<b.size∧n≤i+j∧Alike st st')
  (Q:=fun c st'=>∃ (r out:Array Keyed) (i j mg:Nat),c=(some r,out,i,j,mg)∧Good k a.toList b.toList r.toList∧Alike st st') ?_ ?_ ⟨#[b0],0,1,_,rfl,M0,by omega,by omega,by omega,Alike.refl _⟩) ?_)
 ·rintro n c st1 _ hn ⟨out,i,j,mg,rfl,M,hi,hj,abJ,al⟩
  -- one by one
  refine wpS_bind (wpS_mono (wpS_forRange (I:=fun m c st'=>∃ (out:Array Keyed) (i' j' ac bc:Nat),c=(none,out,i',j',ac,bc)∧MI k a.toList b.toList out.toList i' j'∧i'+1<a.size∧j'<b.size∧i+j+m≤i'+j'∧Alike st st')
   (Q:=fun c st'=>Alike st st'∧((∃ (r out:Array Keyed) (i' j' ac bc:Nat),c=(some r,out,i',j',ac,bc)∧Good k a.toList b.toList r.toList)∨∃ (out:Array Keyed) (i' j' ac bc:Nat),c=(none,out,i',j',ac,bc)∧MI k a.toList b.toList out.toList i' j'∧i'+1<a.size∧j'<b.size∧i+j+1≤i'+j')) ?_ ?_ ⟨out,i,j,0,0,rfl,M,hi,hj,by omega,al⟩) ?_)
  ·clear M hi hj abJ al
   rintro m c st2 _ hm ⟨out,i',j',ac,bc,rfl,M,hi,hj,hm2,al⟩
   obtain ⟨x,hx,hx',Jx⟩:=d9 (show i'<a.size by omega)
   obtain ⟨y,hy,hy',Tg⟩:=d9 hj
   dsimp only
   refine wpS_bind (cg hy (wpS_bind (cg hx (wpS_bind (hL _ _ _ _ (okb y Tg) (XS x Jx) (al.kd.trans hk) ?_)))))
   by_cases c1:k y<k x
   ·rw [decide_eq_true c1]
    dsimp only
    rw [if_pos rfl]
    have M2:=M.Ni sb hy' (fun z hz=>wH sa hx' c1 hz)
    rw [←zf] at M2
    refine wpS_bind (cg hy ?_)
    by_cases e3:j'+1=b.size
    ·rw [if_pos (by simpa using e3)]
     exact wpS_pure ⟨al,.inl ⟨_,_,_,_,_,_,rfl,wZ _ _ _ M2 (.inl e3)⟩⟩
    ·rw [if_neg (by simpa using e3)]
     by_cases e4:bc+1 ≥ mg
     ·rw [if_pos e4]
      exact wpS_pure ⟨al,.inr ⟨_,_,_,_,_,rfl,M2,hi,by omega,by omega⟩⟩
     ·rw [if_neg e4]
      exact wpS_pure ⟨_,_,_,_,_,rfl,M2,hi,by omega,by omega,al⟩
   ·rw [decide_eq_false c1]
    dsimp only
    rw [if_neg (by decide)]
    have c2:k x<k y:=by have:=dis x Jx y Tg;omega
    have M2:=M.JB sa hx' (fun z hz=>wH sb hy' c2 hz)
    rw [←zf] at M2
    refine wpS_bind (cg hx ?_)
    by_cases e3:i'+1+1=a.size
    ·rw [if_pos (by simpa using e3)]
     exact wpS_pure ⟨al,.inl ⟨_,_,_,_,_,_,rfl,Ga _ _ _ M2 e3⟩⟩
    ·rw [if_neg (by simpa using e3)]
     by_cases e4:ac+1 ≥ mg
     ·rw [if_pos e4]
      exact wpS_pure ⟨al,.inr ⟨_,_,_,_,_,rfl,M2,by omega,hj,by omega⟩⟩
     ·rw [if_neg e4]
      exact wpS_pure ⟨_,_,_,_,_,rfl,M2,by omega,hj,by omega,al⟩
  ·rintro c st2 ⟨out,i',j',ac,bc,rfl,M,hi,hj,hm2,al⟩
   omega
  ·rintro c st2 ⟨Uw,⟨r,Bj,i2,j2,ac,bc,rfl,G⟩ | ⟨Bj,i2,j2,ac,bc,rfl,M2,hi2,hj2,hs2⟩⟩
   ·exact wpS_pure ⟨_,_,_,_,_,rfl,G,Uw⟩
   ·refine wpS_bind (wpS_lift (wpAny_rule ⟨rfl,?_⟩))
    -- in blocks
    refine wpS_bind (wpS_mono (wpS_forRange (I:=fun m c st'=>∃ (out:Array Keyed) (i' j' mg ac bc:Nat),c=(none,out,i',j',mg,ac,bc)∧MI k a.toList b.toList out.toList i' j'∧i'+1<a.size∧j'<b.size∧i+j+1+m≤i'+j'∧Alike st st')
     (Q:=fun c st'=>Alike st st'∧((∃ (r out:Array Keyed) (i' j' mg ac bc:Nat),c=(some r,out,i',j',mg,ac,bc)∧Good k a.toList b.toList r.toList)∨∃ (out:Array Keyed) (i' j' mg ac bc:Nat),c=(none,out,i',j',mg,ac,bc)∧MI k a.toList b.toList out.toList i' j'∧i'+1<a.size∧j'<b.size∧i+j+1≤i'+j')) ?_ ?_ ⟨Bj,i2,j2,_,ac,bc,rfl,M2,hi2,hj2,by omega,Uw⟩) ?_)
    ·clear M2 hi2 hj2 hs2 Uw
     rintro m c st2 _ hm ⟨out,i',j',mg,ac,bc,rfl,M,hi,hj,hm2,al⟩
     extract_lets
     rename_i jp mgm
     have hjp:∀ mg',wpS (model prog w) A E s (jp () mg') (Kp k a b st (i+j+1) m) st2:=by
      intro mg'
      refine wpS_bind (wpS_modify ?_)
      obtain ⟨y,hy,hy',Tg⟩:=d9 hj
      obtain ⟨lst,_,acY,aeZ⟩:=d9 (a:=a) (i:=a.size - 1) (by omega)
      have X3:∀ z∈b.toList,k z<k lst:=hl lst (by rw [hla];exact acY)
      refine wpS_bind (cg hy (wpS_bind (mX hL (okb y Tg) (al.kd.trans hk) (str_mk (base:=i') (n:=a.size - i') sa XS (by omega)) (show 0<a.size - i' by omega) (fun m1 hm1 hb1 hb2=>?_))))
      have hm1:m1≤a.size - i':=hm1
      have hb2:∀ t,m1≤t→t<a.size - i'→(a[i'+t]?).elim false (rQ k false y)=false:=hb2
      have below:∀ t x,t<m1→a.toList[i'+t]? = some x→k x<k y:=fun t x ht hx=>by
       have h1:=hb1 t ht
       obtain ⟨x',g1,g2,g3⟩:=d9 (a:=a) (i:=i'+t) (by omega)
       rw [g2] at hx;cases hx
       rw [g1] at h1
       have h2:rQ k false y x=true:=h1
       unfold rQ at h2
       rw [if_neg (by decide)] at h2
       have h3:¬ k y<k x:=by simpa using h2
       have:=dis x g3 y Tg
       omega
      have ad2:i'+m1<a.size:=by
       apply Nat.lt_of_not_le
       intro z
       have:=below (a.size - 1 - i') lst (by omega) (by rw [show i'+(a.size - 1 - i')=a.size - 1 by omega];exact acY)
       have:=X3 y Tg
       omega
      have above:∀ z∈a.toList.drop (i'+m1),k y<k z:=fun z hz=>by
       obtain ⟨x',g1,g2,g3⟩:=d9 ad2
       have h1:=hb2 m1 (Nat.le_refl _) (by omega)
       rw [g1] at h1
       have h2:rQ k false y x' = false:=h1
       unfold rQ at h2
       rw [if_neg (by decide)] at h2
       have h3:k y<k x':=by simpa using h2
       exact wH sa g2 h3 hz
      have M1:=M.XQ (m:=m1) sa (by omega) (fun x hx z hz=>by
       obtain ⟨t,ht,e⟩:=FZ hx
       have:=below t x ht e
       obtain ⟨u,hu,e2⟩:=vp hz
       by_cases eu:u=j'
       ·subst eu;rw [hy'] at e2;cases e2;exact this
       ·have:=vo sb hy' e2 (by omega)
        omega)
      have Lk:Alike st (SortSt.mk' (kindOf st2) (arrOf st2) (pendingOf st2) mg' (failedOf st2)):=al.trans ⟨rfl,rfl,rfl,rfl⟩
      show wpS _ _ _ _ _ (Kp k a b st (i+j+1) m) (SortSt.mk' (kindOf st2) (arrOf st2) (pendingOf st2) mg' (failedOf st2))
      generalize SortSt.mk' (kindOf st2) (arrOf st2) (pendingOf st2) mg' (failedOf st2)=st3 at Lk
      dsimp (config:={ zeta:=false }) only
      extract_lets
      rename_i jp2 Bj ia2
      have X4:∀ (out:Array Keyed) (ia:Nat),MI k a.toList b.toList out.toList ia j'→ia+1<a.size→i'≤ia→(∀ z∈a.toList.drop ia,k y<k z)→wpS (model prog w) A E s (jp2 () out ia) (Kp k a b st (i+j+1) m) st3:=by
       intro out ia MJ hia ad3 hab
       refine wpS_bind (cg hy ?_)
       have M2:=MJ.Ni sb hy' hab
       rw [←zf] at M2
       obtain ⟨x,hx,hx',Jx⟩:=d9 (show ia<a.size by omega)
       show wpS _ _ _ _ (if (j'+1 == b.size)=true then _ else _) _ _
       by_cases e3:j'+1=b.size
       ·rw [if_pos (by simpa using e3)]
        exact wpS_pure ⟨Lk,.inl ⟨_,_,_,_,_,_,_,rfl,wZ _ _ _ M2 (.inl e3)⟩⟩
       rw [if_neg (by simpa using e3)]
       refine wpS_bind (cg hx (wpS_bind (mX hL (XS x Jx) (Lk.kd.trans hk) (str_mk (base:=j'+1) (n:=b.size - (j'+1)) sb okb (by omega)) (show 0<b.size - (j'+1) by omega) (fun m2 hm2' hc1 hc2=>?_))))
       have hm2':m2≤b.size - (j'+1):=hm2'
       have hc2:∀ t,m2≤t→t<b.size - (j'+1)→(b[j'+1+t]?).elim false (rQ k true x)=false:=hc2
       have M3:=M2.XR (m:=m2) sb (by omega) (fun z hz u hu=>by
        obtain ⟨t,ht,e⟩:=FZ hz
        have h1:=hc1 t ht
        obtain ⟨z',g1,g2,g3⟩:=d9 (a:=b) (i:=j'+1+t) (by omega)
        rw [g2] at e;cases e
        rw [g1] at h1
        have h2:rQ k true x z=true:=h1
        unfold rQ at h2
        rw [if_pos rfl] at h2
        exact wH sa hx' (of_decide_eq_true h2) hu)
       have rest:j'+1+m2<b.size→∀ z∈b.toList.drop (j'+1+m2),k x<k z:=fun hlt z hz=>by
        obtain ⟨z',g1,g2,g3⟩:=d9 hlt
        have h1:=hc2 m2 (Nat.le_refl _) (by omega)
        rw [g1] at h1
        have h2:rQ k true x z' = false:=h1
        unfold rQ at h2
        rw [if_pos rfl] at h2
        have h3:=of_decide_eq_false h2
        have h4:=dis x Jx z' g3
        exact wH sb g2 (by omega) hz
       dsimp (config:={ zeta:=false }) only
       extract_lets
       rename_i jp3 ad4 ib3
       have X5:∀ (out:Array Keyed) (ib:Nat),MI k a.toList b.toList out.toList ia ib→ib<b.size→j'+1≤ib→(∀ z∈b.toList.drop ib,k x<k z)→wpS (model prog w) A E s (jp3 () out ib) (Kp k a b st (i+j+1) m) st3:=by
        intro out ib MK hib ad5 hxb
        refine wpS_bind (cg hx ?_)
        have M4:=MK.JB sa hx' hxb
        rw [←zf] at M4
        show wpS _ _ _ _ (if (ia+1+1 == a.size)=true then _ else if _ then _ else _) _ _
        by_cases e4:ia+1+1=a.size
        ·rw [if_pos (by simpa using e4)]
         exact wpS_pure ⟨Lk,.inl ⟨_,_,_,_,_,_,_,rfl,Ga _ _ _ M4 e4⟩⟩
        rw [if_neg (by simpa using e4)]
        split
        ·exact wpS_pure ⟨Lk,.inr ⟨_,_,_,_,_,_,rfl,M4,by omega,hib,by omega⟩⟩
        ·exact wpS_pure ⟨_,_,_,_,_,_,rfl,M4,by omega,hib,by omega,Lk⟩
       show wpS _ _ _ _ (if m2 > 0 then (if (j'+1+m2 == b.size)=true then _ else jp3 () _ (j'+1+m2)) else jp3 () _ (j'+1)) _ _
       by_cases e5:m2 > 0
       ·rw [if_pos e5]
        rw [←Tj] at M3
        by_cases e6:j'+1+m2=b.size
        ·rw [if_pos (by simpa using e6)]
         exact wpS_pure ⟨Lk,.inl ⟨_,_,_,_,_,_,_,rfl,wZ _ _ _ M3 (.inl e6)⟩⟩
        ·rw [if_neg (by simpa using e6)]
         exact X5 _ _ M3 (by omega) (by omega) (rest (by omega))
       ·rw [if_neg e5]
        have e7:m2=0:=by omega
        subst e7
        exact X5 _ _ M2 (by omega) (Nat.le_refl _) (rest (by omega))
      show wpS _ _ _ _ (if m1 > 0 then (if (i'+m1+1 == a.size)=true then _ else if (i'+m1 == a.size)=true then _ else jp2 () _ (i'+m1)) else jp2 () out i') _ _
      by_cases e5:m1 > 0
      ·rw [if_pos e5]
       rw [←Tj] at M1
       by_cases e6:i'+m1+1=a.size
       ·rw [if_pos (by simpa using e6)]
        exact wpS_pure ⟨Lk,.inl ⟨_,_,_,_,_,_,_,rfl,Ga _ _ _ M1 e6⟩⟩
       ·rw [if_neg (by simpa using e6),if_neg (by simp;omega)]
        exact X4 _ _ M1 (by omega) (by omega) above
      ·rw [if_neg e5]
       have e7:m1=0:=by omega
       subst e7
       exact X4 _ _ M hi (Nat.le_refl _) above
     show wpS _ _ _ _ (if _ then jp () _ else jp () _) _ _
     split
     ·exact wpS_mono (hjp _) (fun r st' h=>by cases r <;> exact h)
     ·exact wpS_mono (hjp _) (fun r st' h=>by cases r <;> exact h)
    ·rintro c st2 ⟨out,i',j',mg,ac,bc,rfl,M,hi,hj,hm2,al⟩
     omega
    ·rintro c st2 ⟨Uw,⟨r,Bj,i2,j2,mg2,ac,bc,rfl,G⟩ | ⟨Bj,i2,j2,mg2,ac,bc,rfl,M2,hi2,hj2,hs2⟩⟩
     ·exact wpS_pure ⟨_,_,_,_,_,rfl,G,Uw⟩
     ·refine wpS_bind (wpS_modify ?_)
      exact wpS_pure ⟨Bj,i2,j2,_,rfl,M2,hi2,hj2,by omega,Uw.trans ⟨rfl,rfl,rfl,rfl⟩⟩
 ·rintro c st1 ⟨out,i,j,mg,rfl,M,hi,hj,hn,al⟩
  omega
 ·rintro c st1 ⟨r,out,i,j,mg,rfl,G,al⟩
  exact wpS_pure (q _ _ G al)
end
end SR
namespace SR
open PySem PyProof.Rows
structure MH (k:Keyed→Int) (la lb o:List Keyed) (na nb:Nat):Prop where
 ha:na≤la.length
 hb:nb≤lb.length
 pm:o.Perm (la.drop na++lb.drop nb)
 st:jw k o
 oa:∀ y∈o,∀ x∈la.take na,k x<k y
 ob:∀ y∈o,∀ x∈lb.take nb,k x<k y
section
variable {k:Keyed→Int} {la lb o:List Keyed} {na nb t:Nat} {x:Keyed}
theorem Gb (l:List Keyed) {t n:Nat} (h:t≤n):l.drop t=(l.take n).drop t++l.drop n:=by
 conv=>lhs;rw [←List.take_append_drop n l]
 rw [List.drop_append]
 by_cases hl:n≤l.length
 ·rw [List.length_take,Nat.min_eq_left hl,show t - n=0 by omega,List.drop_zero]
 ·rw [List.drop_eq_nil_of_le (show l.length≤n by omega),List.drop_nil]
theorem Dc {l:List Keyed} {i j:Nat} {y:Keyed} (h:y∈l.take i) (hij:i≤j):y∈l.take j:=by
 have:l.take i=(l.take j).take i:=by rw [List.take_take,Nat.min_eq_left hij]
 rw [this] at h
 exact List.mem_of_mem_take h
theorem JC {l:List Keyed} (s:jw k l) {t n:Nat} (h:t≤n):∀ x∈l.take t,∀ y∈(l.take n).drop t,k x<k y:=by
 have s2:jw k (l.take n):=s.sublist (List.take_sublist _ _)
 rw [←List.take_append_drop t (l.take n),List.take_take,Nat.min_eq_left h] at s2
 exact (List.pairwise_append.mp s2).2.2
theorem MH.XQ (h:MH k la lb o na nb) (sa:jw k la) (ht:t≤na) (hlt:∀ y∈(la.take na).drop t,∀ x∈lb.take nb,k x<k y):MH k la lb ((la.take na).drop t++o) t nb where
 ha:=by have:=h.ha;omega
 hb:=h.hb
 pm:=by
  rw [Gb la ht,List.append_assoc]
  exact List.Perm.append_left _ h.pm
 st:=by
  have s1:jw k ((la.take na).drop t):=(sa.sublist ((List.drop_sublist _ _).trans (List.take_sublist _ _)))
  exact List.pairwise_append.mpr ⟨s1,h.st,fun x hx y hy=>h.oa y hy x (List.mem_of_mem_drop hx)⟩
 oa:=fun y hy x hx=>by
  rcases List.mem_append.mp hy with z | z
  ·exact JC sa ht x hx y z
  ·exact h.oa y z x (Dc hx ht)
 ob:=fun y hy x hx=>by
  rcases List.mem_append.mp hy with z | z
  ·exact hlt y z x hx
  ·exact h.ob y z x hx
theorem MH.XR (h:MH k la lb o na nb) (sb:jw k lb) (ht:t≤nb) (hlt:∀ y∈(lb.take nb).drop t,∀ x∈la.take na,k x<k y):MH k la lb ((lb.take nb).drop t++o) na t where
 ha:=h.ha
 hb:=by have:=h.hb;omega
 pm:=by
  rw [Gb lb ht]
  refine (List.Perm.append_left _ h.pm).trans ?_
  rw [←List.append_assoc,←List.append_assoc]
  exact List.Perm.append_right _ List.perm_append_comm
 st:=by
  have s1:jw k ((lb.take nb).drop t):=(sb.sublist ((List.drop_sublist _ _).trans (List.take_sublist _ _)))
  exact List.pairwise_append.mpr ⟨s1,h.st,fun x hx y hy=>h.ob y hy x (List.mem_of_mem_drop hx)⟩
 oa:=fun y hy x hx=>by
  rcases List.mem_append.mp hy with z | z
  ·exact hlt y z x hx
  ·exact h.oa y z x hx
 ob:=fun y hy x hx=>by
  rcases List.mem_append.mp hy with z | z
  ·exact JC sb ht x hx y z
  ·exact h.ob y z x (Dc hx ht)
theorem Ey {l:List Keyed} {n:Nat} {x:Keyed} (hx:l[n]? = some x):(l.take (n+1)).drop n=[x]:=by
 obtain ⟨h,e⟩:=List.getElem?_eq_some_iff.mp hx
 rw [List.take_add_one,hx,List.drop_append,List.length_take,Nat.min_eq_left (by omega),Nat.sub_self,List.drop_eq_nil_of_le (by rw [List.length_take];omega)]
 rfl
theorem MH.JB (h:MH k la lb o (na+1) nb) (sa:jw k la) (hx:la[na]? = some x) (hlt:∀ z∈lb.take nb,k z<k x):MH k la lb (x::o) na nb:=by
 have:=h.XQ (t:=na) sa (by omega) (by rw [Ey hx];intro y hy;rw [List.mem_singleton.mp hy];exact hlt)
 rw [Ey hx] at this
 exact this
theorem MH.Ni (h:MH k la lb o na (nb+1)) (sb:jw k lb) (hx:lb[nb]? = some x) (hlt:∀ z∈la.take na,k z<k x):MH k la lb (x::o) na nb:=by
 have:=h.XR (t:=nb) sb (by omega) (by rw [Ey hx];intro y hy;rw [List.mem_singleton.mp hy];exact hlt)
 rw [Ey hx] at this
 exact this
theorem MH.fin (h:MH k la lb o na nb) {r:List Keyed} (hr:r.Perm (la.take na++lb.take nb)) (sr:jw k r):Good k la lb (r++o) where
 pm:=by
  refine (hr.append h.pm).trans ?_
  have e1:(la.take na++lb.take nb++(la.drop na++lb.drop nb)).Perm ((la.take na++la.drop na)++(lb.take nb++lb.drop nb)):=by
   rw [List.append_assoc,List.append_assoc]
   refine List.Perm.append_left _ ?_
   rw [←List.append_assoc,←List.append_assoc]
   exact List.Perm.append_right _ List.perm_append_comm
  rw [List.take_append_drop,List.take_append_drop] at e1
  exact e1
 st:=List.pairwise_append.mpr ⟨sr,h.st,fun x hx y hy=>by
  rcases List.mem_append.mp (hr.mem_iff.mp hx) with z | z
  ·exact h.oa y hy x z
  ·exact h.ob y hy x z⟩
theorem MH.done (h:MH k la lb o na nb) (sa:jw k la) (sb:jw k lb) (e:na=0∨nb=0):Good k la lb (la.take na++lb.take nb++o):=by
 refine h.fin (List.Perm.refl _) ?_
 rcases e with rfl | rfl
 ·rw [List.take_zero,List.nil_append];exact sb.sublist (List.take_sublist _ _)
 ·rw [List.take_zero,List.append_nil];exact sa.sublist (List.take_sublist _ _)
theorem MH.abL (h:MH k la lb o na nb) (sa:jw k la) (sb:jw k lb) (hf:∀ x,lb[0]? = some x→∀ y∈la,k x<k y) (e:nb=1):Good k la lb (lb.take nb++la.take na++o):=by
 refine h.fin List.perm_append_comm ?_
 refine List.pairwise_append.mpr ⟨sb.sublist (List.take_sublist _ _),sa.sublist (List.take_sublist _ _),fun x hx y hy=>?_⟩
 subst e
 obtain ⟨j,hj⟩:=List.mem_iff_getElem?.mp hx
 rw [List.getElem?_take] at hj
 split at hj
 ·rename_i hlt
  have:j=0:=by omega
  subst this
  exact hf x hj y (List.mem_of_mem_take hy)
 ·cases hj
theorem j8 {l:List Keyed} {i:Nat} {y:Keyed} (h:y∈l.take i):∃ j,j<i∧l[j]? = some y:=by
 obtain ⟨j,hj⟩:=List.mem_iff_getElem?.mp h
 rw [List.getElem?_take] at hj
 split at hj
 ·rename_i hlt;exact ⟨j,hlt,hj⟩
 ·cases hj
theorem xY {l:List Keyed} {t n:Nat} {y:Keyed} (h:y∈(l.take n).drop t):∃ j,t≤j∧j<n∧l[j]? = some y:=by
 obtain ⟨j,hj⟩:=List.mem_iff_getElem?.mp h
 rw [List.getElem?_drop,List.getElem?_take] at hj
 split at hj
 ·rename_i hlt;exact ⟨t+j,by omega,hlt,hj⟩
 ·cases hj
theorem Ez {l:List Keyed} (h:jw k l) {i:Nat} {x y:Keyed} {c:Int} (hi:l[i]? = some x) (hc:k x<c) (hy:y∈l.take (i+1)):k y<c:=by
 obtain ⟨j,hj,e⟩:=j8 hy
 by_cases z:j=i
 ·subst z;rw [hi] at e;cases e;exact hc
 ·have:=vo h e hi (by omega);omega
end
theorem Nm (a:Array Keyed) (n:Nat):(a.extract 0 n).toList=a.toList.take n:=by
 rw [Array.toList_extract,List.extract_eq_take_drop,List.drop_zero,Nat.sub_zero]
theorem Tn (a b out:Array Keyed) (n m:Nat):(a.extract 0 n++b.extract 0 m++out.reverse).toList=a.toList.take n++b.toList.take m++out.toList.reverse:=by
 rw [Array.toList_append,Array.toList_append,Nm,Nm,Array.toList_reverse]
theorem wI (out:Array Keyed) (x:Keyed):(out.push x).toList.reverse=x::out.toList.reverse:=by rw [Array.toList_push,List.reverse_append];rfl
theorem Np (out a:Array Keyed) (t n:Nat):(out++(a.extract t n).reverse).toList.reverse=(a.toList.take n).drop t++out.toList.reverse:=by
 rw [Array.toList_append,Array.toList_reverse,List.reverse_append,List.reverse_reverse,Array.toList_extract,List.extract_eq_take_drop,List.drop_take]
end SR
namespace SR
open PySem PyProof.Rows
section
variable {prog:Program} {w:World} {A:Around} {E:Value→Shared→Prop} {s:Shared} {k:Keyed→Int} {ok:Keyed→Prop}
def Kq (k:Keyed→Int) (a b:Array Keyed) (st:SortSt) (p m:Nat) (r:ForInStep (Option (Array Keyed)×Nat×Nat×Array Keyed×Nat×Nat×Nat)) (st':SortSt):Prop:=match r with
 | .done c'=>Alike st st'∧((∃ (r out:Array Keyed) (na nb mg ac bc:Nat),c' = (some r,na,nb,out,mg,ac,bc)∧Good k a.toList b.toList r.toList)∨∃ (out:Array Keyed) (na nb mg ac bc:Nat),c' = (none,na,nb,out,mg,ac,bc)∧MH k a.toList b.toList out.toList.reverse na nb∧1≤na∧2≤nb∧na+nb+p≤a.size+b.size)
 | .yield c'=>∃ (out:Array Keyed) (na nb mg ac bc:Nat),c' = (none,na,nb,out,mg,ac,bc)∧MH k a.toList b.toList out.toList.reverse na nb∧1≤na∧2≤nb∧na+nb+p+(m+1)≤a.size+b.size∧Alike st st'
theorem PN (hL:Bh prog w A E s k ok) {a b:Array Keyed} {st:SortSt} {Q:Array Keyed→SortSt→Prop} (hk:kindOf st=oneType') (XS:∀ x∈a.toList,ok x) (okb:∀ x∈b.toList,ok x) (sa:jw k a.toList) (sb:jw k b.toList)
  (dis:∀ x∈a.toList,∀ y∈b.toList,k x≠k y) (na0:0<a.size) (nb0:0<b.size) (hf:∀ x,b.toList[0]? = some x→∀ y∈a.toList,k x<k y) (hl:∀ x,a.toList[a.toList.length - 1]? = some x→∀ y∈b.toList,k y<k x)
  (q:∀ r st',Good k a.toList b.toList r.toList→Alike st st'→Q r st'):wpS (model prog w) A E s (XM a b) Q st:=by
 have hla:a.toList.length=a.size:=Array.length_toList
 have hlb:b.toList.length=b.size:=Array.length_toList
 have wZ:∀ (out:Array Keyed) (i j:Nat),MH k a.toList b.toList out.toList.reverse i j→(i=0∨j=0)→Good k a.toList b.toList (a.extract 0 i++b.extract 0 j++out.reverse).toList:=fun out i j h e=>by
  rw [Tn];exact h.done sa sb e
 have xZ:∀ (out:Array Keyed) (i j:Nat),MH k a.toList b.toList out.toList.reverse i j→j=1→Good k a.toList b.toList (b.extract 0 j++a.extract 0 i++out.reverse).toList:=fun out i j h e=>by
  rw [Tn];exact h.abL sa sb hf e
 obtain ⟨z0,hz0,acZ,afs⟩:=d9 (a:=a) (i:=a.size - 1) (by omega)
 have ad7:∀ y∈b.toList,k y<k z0:=hl z0 (by rw [hla];exact acZ)
 have M00:MH k a.toList b.toList [] a.size b.size:=by
  refine ⟨by omega,by omega,?_,List.Pairwise.nil,fun y hy=>absurd hy List.not_mem_nil,fun y hy=>absurd hy List.not_mem_nil⟩
  rw [List.drop_eq_nil_of_le (by omega),List.drop_eq_nil_of_le (by omega)]
  exact List.Perm.refl _
 have M0:MH k a.toList b.toList (#[z0]:Array Keyed).toList.reverse (a.size - 1) b.size:=by
  have h1:MH k a.toList b.toList [] (a.size - 1+1) b.size:=by rw [show a.size - 1+1=a.size by omega];exact M00
  exact h1.JB sa acZ (fun z hz=>ad7 z (List.mem_of_mem_take hz))
 refine wpS_bind (wpS_lift (wpAny_rule ⟨rfl,?_⟩))
 extract_lets
 refine wpS_bind (cg hz0 ?_)
 show wpS _ _ _ _ (if (a.size - 1 == 0)=true then _ else if (b.size == 1)=true then _ else _) _ _
 by_cases e1:a.size - 1=0
 ·rw [if_pos (by simpa using e1)]
  exact wpS_pure (q _ _ (wZ _ _ _ M0 (.inl e1)) (Alike.refl _))
 rw [if_neg (by simpa using e1)]
 by_cases e2:b.size=1
 ·rw [if_pos (by simpa using e2)]
  exact wpS_pure (q _ _ (xZ _ _ _ M0 e2) (Alike.refl _))
 rw [if_neg (by simpa using e2)]
 refine wpS_bind (wpS_get ?_)
 refine wpS_bind (wpS_mono (wpS_forRange (I:=fun n c st'=>∃ (out:Array Keyed) (na nb mg:Nat),c=(none,na,nb,out,mg)∧MH k a.toList b.toList out.toList.reverse na nb∧1≤na∧2≤nb∧na+nb+n≤a.size+b.size∧Alike st st')
  (Q:=fun c st'=>∃ (r out:Array Keyed) (na nb mg:Nat),c=(some r,na,nb,out,mg)∧Good k a.toList b.toList r.toList∧Alike st st') ?_ ?_ ⟨#[z0],a.size - 1,b.size,_,rfl,M0,by omega,by omega,by omega,Alike.refl _⟩) ?_)
 ·rintro n c st1 _ hn ⟨out,na,nb,mg,rfl,M,hi,hj,abJ,al⟩
  -- one by one
  refine wpS_bind (wpS_mono (wpS_forRange (I:=fun m c st'=>∃ (out:Array Keyed) (uY uZ ac bc:Nat),c=(none,uY,uZ,out,ac,bc)∧MH k a.toList b.toList out.toList.reverse uY uZ∧1≤uY∧2≤uZ∧uY+uZ+n+m≤a.size+b.size∧Alike st st')
   (Q:=fun c st'=>Alike st st'∧((∃ (r out:Array Keyed) (uY uZ ac bc:Nat),c=(some r,uY,uZ,out,ac,bc)∧Good k a.toList b.toList r.toList)∨∃ (out:Array Keyed) (uY uZ ac bc:Nat),c=(none,uY,uZ,out,ac,bc)∧MH k a.toList b.toList out.toList.reverse uY uZ∧1≤uY∧2≤uZ∧uY+uZ+(n+1)≤a.size+b.size)) ?_ ?_ ⟨out,na,nb,0,0,rfl,M,hi,hj,by omega,al⟩) ?_)
  ·clear M hi hj abJ al
   rintro m c st2 _ hm ⟨out,uY,uZ,ac,bc,rfl,M,hi,hj,hm2,al⟩
   obtain ⟨uY,rfl⟩:∃ u,uY=u+1:=⟨uY - 1,by omega⟩
   obtain ⟨uZ,rfl⟩:∃ u,uZ=u+1:=⟨uZ - 1,by omega⟩
   have hai:uY+1≤a.size:=by have:=M.ha;omega
   have hbi:uZ+1≤b.size:=by have:=M.hb;omega
   obtain ⟨x,hx,hx',Jx⟩:=d9 (show uY<a.size by omega)
   obtain ⟨y,hy,hy',Tg⟩:=d9 (show uZ<b.size by omega)
   dsimp only
   refine wpS_bind (cg hy (wpS_bind (cg hx (wpS_bind (hL _ _ _ _ (okb y Tg) (XS x Jx) (al.kd.trans hk) ?_)))))
   by_cases c1:k y<k x
   ·rw [decide_eq_true c1]
    dsimp only
    rw [if_pos rfl]
    have M2:=M.JB sa hx' (fun z hz=>Ez sb hy' c1 hz)
    rw [←wI] at M2
    refine wpS_bind (cg hx ?_)
    show wpS _ _ _ _ (if (uY == 0)=true then _ else if _ then _ else _) _ _
    by_cases e3:uY=0
    ·rw [if_pos (by simpa using e3)]
     exact wpS_pure ⟨al,.inl ⟨_,_,_,_,_,_,rfl,wZ _ _ _ M2 (.inl e3)⟩⟩
    ·rw [if_neg (by simpa using e3)]
     split
     ·exact wpS_pure ⟨al,.inr ⟨_,_,_,_,_,rfl,M2,by omega,hj,by omega⟩⟩
     ·exact wpS_pure ⟨_,_,_,_,_,rfl,M2,by omega,hj,by omega,al⟩
   ·rw [decide_eq_false c1]
    dsimp only
    rw [if_neg (by decide)]
    have c2:k x<k y:=by have:=dis x Jx y Tg;omega
    have M2:=M.Ni sb hy' (fun z hz=>Ez sa hx' c2 hz)
    rw [←wI] at M2
    refine wpS_bind (cg hy ?_)
    show wpS _ _ _ _ (if (uZ == 1)=true then _ else if _ then _ else _) _ _
    by_cases e3:uZ=1
    ·rw [if_pos (by simpa using e3)]
     exact wpS_pure ⟨al,.inl ⟨_,_,_,_,_,_,rfl,xZ _ _ _ M2 e3⟩⟩
    ·rw [if_neg (by simpa using e3)]
     split
     ·exact wpS_pure ⟨al,.inr ⟨_,_,_,_,_,rfl,M2,hi,by omega,by omega⟩⟩
     ·exact wpS_pure ⟨_,_,_,_,_,rfl,M2,hi,by omega,by omega,al⟩
  ·rintro c st2 ⟨out,uY,uZ,ac,bc,rfl,M,hi,hj,hm2,al⟩
   omega
  ·rintro c st2 ⟨Uw,⟨r,Bj,i2,j2,ac,bc,rfl,G⟩ | ⟨Bj,i2,j2,ac,bc,rfl,M2,hi2,hj2,hs2⟩⟩
   ·exact wpS_pure ⟨_,_,_,_,_,rfl,G,Uw⟩
   ·refine wpS_bind (wpS_lift (wpAny_rule ⟨rfl,?_⟩))
    -- in blocks
    refine wpS_bind (wpS_mono (wpS_forRange (I:=fun m c st'=>∃ (out:Array Keyed) (uY uZ mg ac bc:Nat),c=(none,uY,uZ,out,mg,ac,bc)∧MH k a.toList b.toList out.toList.reverse uY uZ∧1≤uY∧2≤uZ∧uY+uZ+(n+1)+m≤a.size+b.size∧Alike st st')
     (Q:=fun c st'=>Alike st st'∧((∃ (r out:Array Keyed) (uY uZ mg ac bc:Nat),c=(some r,uY,uZ,out,mg,ac,bc)∧Good k a.toList b.toList r.toList)∨∃ (out:Array Keyed) (uY uZ mg ac bc:Nat),c=(none,uY,uZ,out,mg,ac,bc)∧MH k a.toList b.toList out.toList.reverse uY uZ∧1≤uY∧2≤uZ∧uY+uZ+(n+1)≤a.size+b.size)) ?_ ?_ ⟨Bj,i2,j2,_,ac,bc,rfl,M2,hi2,hj2,by omega,Uw⟩) ?_)
    ·clear M2 hi2 hj2 hs2 Uw
     rintro m c st2 _ hm ⟨out,uY,uZ,mg,ac,bc,rfl,M,hi,hj,hm2,al⟩
     obtain ⟨u,rfl⟩:∃ u,uY=u+1:=⟨uY - 1,by omega⟩
     obtain ⟨v,rfl⟩:∃ u,uZ=u+1:=⟨uZ - 1,by omega⟩
     have hai:u+1≤a.size:=by have:=M.ha;omega
     have hbi:v+1≤b.size:=by have:=M.hb;omega
     extract_lets
     rename_i jp mgm
     have hjp:∀ mg',wpS (model prog w) A E s (jp () mg') (Kq k a b st (n+1) m) st2:=by
      intro mg'
      refine wpS_bind (wpS_modify ?_)
      obtain ⟨y,hy,hy',Tg⟩:=d9 (show v<b.size by omega)
      refine wpS_bind (cg hy (wpS_bind (mX hL (okb y Tg) (al.kd.trans hk) (str_mk (base:=0) (n:=u+1) sa XS (by omega)) (show u+1 - 1<u+1 by omega) (fun m1 hm1 hb1 hb2=>?_))))
      have hm1:m1≤u+1:=hm1
      have hb2:∀ t,m1≤t→t<u+1→(a[0+t]?).elim false (rQ k false y)=false:=hb2
      have below:∀ z∈a.toList.take m1,k z<k y:=fun z hz=>by
       obtain ⟨t,ht,e⟩:=j8 hz
       have h1:=hb1 t ht
       obtain ⟨x',g1,g2,g3⟩:=d9 (a:=a) (i:=t) (by omega)
       rw [g2] at e;cases e
       rw [Nat.zero_add,g1] at h1
       have h2:rQ k false y z=true:=h1
       unfold rQ at h2
       rw [if_neg (by decide)] at h2
       have h3:¬ k y<k z:=by simpa using h2
       have:=dis z g3 y Tg
       omega
      have M1:=M.XQ (t:=m1) sa hm1 (fun x hx z hz=>by
       obtain ⟨t,ht1,ZD,e⟩:=xY hx
       have h1:=hb2 t ht1 ZD
       obtain ⟨x',g1,g2,g3⟩:=d9 (a:=a) (i:=t) (by omega)
       rw [g2] at e;cases e
       rw [Nat.zero_add,g1] at h1
       have h2:rQ k false y x=false:=h1
       unfold rQ at h2
       rw [if_neg (by decide)] at h2
       have h3:k y<k x:=by simpa using h2
       exact Ez sb hy' h3 hz)
      have Lk:Alike st (SortSt.mk' (kindOf st2) (arrOf st2) (pendingOf st2) mg' (failedOf st2)):=al.trans ⟨rfl,rfl,rfl,rfl⟩
      show wpS _ _ _ _ _ (Kq k a b st (n+1) m) (SortSt.mk' (kindOf st2) (arrOf st2) (pendingOf st2) mg' (failedOf st2))
      generalize SortSt.mk' (kindOf st2) (arrOf st2) (pendingOf st2) mg' (failedOf st2)=st3 at Lk
      dsimp (config:={ zeta:=false }) only
      extract_lets
      rename_i jp2 Bj na2
      have X4:∀ (out:Array Keyed) (ia:Nat),MH k a.toList b.toList out.toList.reverse ia (v+1)→1≤ia→ia≤u+1→(∀ z∈a.toList.take ia,k z<k y)→wpS (model prog w) A E s (jp2 () ia out) (Kq k a b st (n+1) m) st3:=by
       intro out ia MJ hia ad3 hab
       obtain ⟨u2,rfl⟩:∃ u,ia=u+1:=⟨ia - 1,by omega⟩
       refine wpS_bind (cg hy ?_)
       have M2:=MJ.Ni sb hy' hab
       rw [←wI] at M2
       obtain ⟨x,hx,hx',Jx⟩:=d9 (show u2<a.size by omega)
       show wpS _ _ _ _ (if (v == 1)=true then _ else _) _ _
       by_cases e3:v=1
       ·rw [if_pos (by simpa using e3)]
        exact wpS_pure ⟨Lk,.inl ⟨_,_,_,_,_,_,_,rfl,xZ _ _ _ M2 e3⟩⟩
       rw [if_neg (by simpa using e3)]
       refine wpS_bind (cg hx (wpS_bind (mX hL (XS x Jx) (Lk.kd.trans hk) (str_mk (base:=0) (n:=v) sb okb (by omega)) (show v - 1<v by omega) (fun m2 hm2' hc1 hc2=>?_))))
       have hm2':m2≤v:=hm2'
       have hc2:∀ t,m2≤t→t<v→(b[0+t]?).elim false (rQ k true x)=false:=hc2
       have M3:=M2.XR (t:=m2) sb hm2' (fun z hz u hu=>by
        obtain ⟨t,ht1,ZD,e⟩:=xY hz
        have h1:=hc2 t ht1 ZD
        obtain ⟨z',g1,g2,g3⟩:=d9 (a:=b) (i:=t) (by omega)
        rw [g2] at e;cases e
        rw [Nat.zero_add,g1] at h1
        have h2:rQ k true x z=false:=h1
        unfold rQ at h2
        rw [if_pos rfl] at h2
        have h3:=of_decide_eq_false h2
        have h4:=dis x Jx z g3
        exact Ez sa hx' (by omega) hu)
       have rest:∀ z∈b.toList.take m2,k z<k x:=fun z hz=>by
        obtain ⟨t,ht,e⟩:=j8 hz
        have h1:=hc1 t ht
        obtain ⟨z',g1,g2,g3⟩:=d9 (a:=b) (i:=t) (by omega)
        rw [g2] at e;cases e
        rw [Nat.zero_add,g1] at h1
        have h2:rQ k true x z=true:=h1
        unfold rQ at h2
        rw [if_pos rfl] at h2
        exact of_decide_eq_true h2
       dsimp (config:={ zeta:=false }) only
       extract_lets
       rename_i jp3 ad4 nb3
       have X5:∀ (out:Array Keyed) (ib:Nat),MH k a.toList b.toList out.toList.reverse (u2+1) ib→2≤ib→ib≤v→(∀ z∈b.toList.take ib,k z<k x)→wpS (model prog w) A E s (jp3 () ib out) (Kq k a b st (n+1) m) st3:=by
        intro out ib MK hib ad5 hxb
        refine wpS_bind (cg hx ?_)
        have M4:=MK.JB sa hx' hxb
        rw [←wI] at M4
        show wpS _ _ _ _ (if (u2 == 0)=true then _ else if _ then _ else _) _ _
        by_cases e4:u2=0
        ·rw [if_pos (by simpa using e4)]
         exact wpS_pure ⟨Lk,.inl ⟨_,_,_,_,_,_,_,rfl,wZ _ _ _ M4 (.inl e4)⟩⟩
        rw [if_neg (by simpa using e4)]
        split
        ·exact wpS_pure ⟨Lk,.inr ⟨_,_,_,_,_,_,rfl,M4,by omega,hib,by omega⟩⟩
        ·exact wpS_pure ⟨_,_,_,_,_,_,rfl,M4,by omega,hib,by omega,Lk⟩
       show wpS _ _ _ _ (if v - m2 > 0 then (if (m2 == 1)=true then _ else if (m2 == 0)=true then _ else jp3 () m2 _) else jp3 () v _) _ _
       by_cases e5:v - m2 > 0
       ·rw [if_pos e5]
        rw [←Np] at M3
        by_cases e6:m2=1
        ·rw [if_pos (by simpa using e6)]
         exact wpS_pure ⟨Lk,.inl ⟨_,_,_,_,_,_,_,rfl,xZ _ _ _ M3 e6⟩⟩
        ·rw [if_neg (by simpa using e6)]
         by_cases e7:m2=0
         ·rw [if_pos (by simpa using e7)]
          exact wpS_pure ⟨Lk,.inl ⟨_,_,_,_,_,_,_,rfl,wZ _ _ _ M3 (.inr e7)⟩⟩
         ·rw [if_neg (by simpa using e7)]
          exact X5 _ _ M3 (by omega) (by omega) rest
       ·rw [if_neg e5]
        have e7:m2=v:=by omega
        subst e7
        exact X5 _ _ M2 (by omega) (Nat.le_refl _) rest
      show wpS _ _ _ _ (if u+1 - m1 > 0 then (if (m1 == 0)=true then _ else jp2 () m1 _) else jp2 () (u+1) out) _ _
      by_cases e5:u+1 - m1 > 0
      ·rw [if_pos e5]
       rw [←Np] at M1
       by_cases e6:m1=0
       ·rw [if_pos (by simpa using e6)]
        exact wpS_pure ⟨Lk,.inl ⟨_,_,_,_,_,_,_,rfl,wZ _ _ _ M1 (.inl e6)⟩⟩
       ·rw [if_neg (by simpa using e6)]
        exact X4 _ _ M1 (by omega) hm1 below
      ·rw [if_neg e5]
       have e7:m1=u+1:=by omega
       rw [e7] at below
       exact X4 _ _ M hi (Nat.le_refl _) below
     show wpS _ _ _ _ (if _ then jp () _ else jp () _) _ _
     split
     ·exact wpS_mono (hjp _) (fun r st' h=>by cases r <;> exact h)
     ·exact wpS_mono (hjp _) (fun r st' h=>by cases r <;> exact h)
    ·rintro c st2 ⟨out,uY,uZ,mg,ac,bc,rfl,M,hi,hj,hm2,al⟩
     omega
    ·rintro c st2 ⟨Uw,⟨r,Bj,i2,j2,mg2,ac,bc,rfl,G⟩ | ⟨Bj,i2,j2,mg2,ac,bc,rfl,M2,hi2,hj2,hs2⟩⟩
     ·exact wpS_pure ⟨_,_,_,_,_,rfl,G,Uw⟩
     ·refine wpS_bind (wpS_modify ?_)
      exact wpS_pure ⟨Bj,i2,j2,_,rfl,M2,hi2,hj2,by omega,Uw.trans ⟨rfl,rfl,rfl,rfl⟩⟩
 ·rintro c st1 ⟨out,na,nb,mg,rfl,M,hi,hj,hn,al⟩
  omega
 ·rintro c st1 ⟨r,out,na,nb,mg,rfl,G,al⟩
  exact wpS_pure (q _ _ G al)
end
end SR
namespace SR
open PySem PyProof.Rows
def ky (k:Keyed→Int) (a:Array Keyed) (i:Nat):Int:=(a[i]?).elim 0 k
structure Pl (k:Keyed→Int) (ok:Keyed→Prop) (a0:Array Keyed) (lo:Nat) (st:SortSt):Prop where
 pm:(arrOf st).Perm a0
 kd:kindOf st=oneType'
 fl:failedOf st=none
 oks:∀ x∈a0.toList,ok x
 nd:(a0.toList.map k).Nodup
 pre:∀ i,i<lo→(arrOf st)[i]? = a0[i]?
def Up (k:Keyed→Int) (a:Array Keyed) (lo n:Nat):Prop:=∀ i j,i<j→j<n→ky k a (lo+i)<ky k a (lo+j)
section
variable {prog:Program} {w:World} {A:Around} {E:Value→Shared→Prop} {s:Shared} {k:Keyed→Int} {ok:Keyed→Prop} {a0:Array Keyed} {lo:Nat} {st:SortSt}
theorem Pl.size (h:Pl k ok a0 lo st):(arrOf st).size=a0.size:=h.pm.size_eq
theorem Pl.get (h:Pl k ok a0 lo st) {i:Nat} (hi:i<a0.size):∃ x,(arrOf st)[i]? = some x∧ok x∧ky k (arrOf st) i=k x:=by
 obtain ⟨x,h1,h2,h3⟩:=d9 (a:=arrOf st) (i:=i) (by rw [h.size];exact hi)
 refine ⟨x,h1,h.oks x (h.pm.toList.mem_iff.mp h3),?_⟩
 unfold ky;rw [h1];rfl
theorem Pl.ne (h:Pl k ok a0 lo st) {i j:Nat} (hi:i<a0.size) (hj:j<a0.size) (hij:i≠j):ky k (arrOf st) i≠ky k (arrOf st) j:=by
 have nd:((arrOf st).toList.map k).Nodup:=(h.pm.toList.map k).nodup_iff.mpr h.nd
 obtain ⟨x,h1,h2,h3⟩:=d9 (a:=arrOf st) (i:=i) (by rw [h.size];exact hi)
 obtain ⟨y,g1,g2,g3⟩:=d9 (a:=arrOf st) (i:=j) (by rw [h.size];exact hj)
 unfold ky
 rw [h1,g1]
 intro e
 have e':k x=k y:=e
 apply hij
 have l1:((arrOf st).toList.map k)[i]? = some (k x):=by rw [List.getElem?_map,h2];rfl
 have l2:((arrOf st).toList.map k)[j]? = some (k x):=by rw [List.getElem?_map,g2,e'];rfl
 have hlen:i<((arrOf st).toList.map k).length:=(List.getElem?_eq_some_iff.mp l1).1
 exact (List.getElem?_inj hlen nd).mp (l1.trans l2.symm)
theorem Pl.set (h:Pl k ok a0 lo st) {b:Array Keyed} (hb:b.Perm (arrOf st)) (hp:∀ i,i<lo→b[i]? = (arrOf st)[i]?):Pl k ok a0 lo (setArr st b) :=
 ⟨hb.trans h.pm,h.kd,h.fl,h.oks,h.nd,fun i hi=>(hp i hi).trans (h.pre i hi)⟩
theorem wp_at (hL:Bh prog w A E s k ok) (h:Pl k ok a0 lo st) {i j:Nat} {Q:Option Bool→SortSt→Prop} (hi:i<a0.size) (hj:j<a0.size) (q:Q (some (decide (ky k (arrOf st) i<ky k (arrOf st) j))) st):wpS (model prog w) A E s (ltAt' i j) Q st:=by
 obtain ⟨x,h1,h2,h3⟩:=h.get hi
 obtain ⟨y,g1,g2,g3⟩:=h.get hj
 rw [ltAt'_eq]
 rw [h3,g3] at q
 exact wpS_bind (wpS_get (wpS_bind (cg h1 (wpS_bind (cg g1 (hL _ _ _ _ h2 g2 h.kd q))))))
theorem X6 (hL:Bh prog w A E s k ok) {n g:Nat} {Q:Bool→SortSt→Prop} (hn:lo+n≤a0.size) (hg:g≤n) (h:Pl k ok a0 lo st) (up:Up k (arrOf st) lo g)
  (q:∀ st',Pl k ok a0 lo st'→pendingOf st' = pendingOf st→Up k (arrOf st') lo n→Q true st'):wpS (model prog w) A E s (binarySort' lo n g) Q st:=by
 rw [binarySort'_eq]
 refine wpS_bind (wpS_mono (wpS_forRange (I:=fun x c st'=>c=(none,())∧Pl k ok a0 lo st'∧pendingOf st' = pendingOf st∧Up k (arrOf st') lo (min x n)) (Q:=fun c st'=>c=(none,())∧Pl k ok a0 lo st'∧pendingOf st' = pendingOf st∧Up k (arrOf st') lo n) ?_ ?_ ⟨rfl,h,rfl,?_⟩) ?_)
 ·rintro x c st1 h1 h2 ⟨rfl,P1,pd1,up1⟩
  rw [show min x n=x by omega] at up1
  have hx1:1≤x:=by omega
  clear h1
  refine wpS_bind (wpS_mono (wpS_forRange (I:=fun y c st'=>st' = st1∧∃ l r,c=(none,l,r)∧l≤r∧r≤x∧r+y≤l+x∧(∀ i,i<l→ky k (arrOf st1) (lo+i)<ky k (arrOf st1) (lo+x))∧∀ i,r≤i→i<x→ky k (arrOf st1) (lo+x)<ky k (arrOf st1) (lo+i))
   (Q:=fun c st'=>st' = st1∧∃ l,c=(none,l,l)∧l≤x∧(∀ i,i<l→ky k (arrOf st1) (lo+i)<ky k (arrOf st1) (lo+x))∧∀ i,l≤i→i<x→ky k (arrOf st1) (lo+x)<ky k (arrOf st1) (lo+i)) ?_ ?_ ⟨rfl,0,x,rfl,Nat.zero_le _,Nat.le_refl _,by omega,fun i hi=>absurd hi (by omega),fun i h3 h4=>absurd h4 (by omega)⟩) ?_)
  ·rintro y c st2 _ hy ⟨rfl,l,r,rfl,hlr,hrx,hm,b1,b2⟩
   dsimp only
   by_cases e:l ≥ r
   ·rw [if_pos e]
    have:l=r:=by omega
    subst this
    exact wpS_pure ⟨rfl,l,rfl,hrx,b1,b2⟩
   ·rw [if_neg e]
    refine wpS_bind (wp_at hL P1 (by omega) (by omega) ?_)
    by_cases c1:ky k (arrOf st2) (lo+x)<ky k (arrOf st2) (lo+(l+r) / 2)
    ·rw [decide_eq_true c1]
     refine wpS_pure ⟨rfl,l,(l+r) / 2,rfl,by omega,by omega,by omega,b1,fun i h3 h4=>?_⟩
     by_cases ei:i=(l+r) / 2
     ·rw [ei];exact c1
     ·have:=up1 ((l+r) / 2) i (by omega) h4;omega
    ·rw [decide_eq_false c1]
     have hne:=P1.ne (i:=lo+x) (j:=lo+(l+r) / 2) (by omega) (by omega) (by omega)
     refine wpS_pure ⟨rfl,(l+r) / 2+1,r,rfl,by omega,by omega,by omega,fun i h3=>?_,b2⟩
     by_cases ei:i=(l+r) / 2
     ·rw [ei];omega
     ·have:=up1 i ((l+r) / 2) (by omega) (by omega);omega
  ·rintro c st2 ⟨rfl,l,r,rfl,hlr,hrx,hm,b1,b2⟩
   have:l=r:=by omega
   subst this
   exact ⟨rfl,l,rfl,hrx,b1,b2⟩
  ·rintro c st2 ⟨rfl,l,rfl,hlx,b1,b2⟩
   show wpS _ _ _ _ (do moveDown' (lo+x) (lo+l);pure (ForInStep.yield (none,()))) _ _
   rw [moveDown'_eq]
   have hsz:=P1.size
   have gb:=getElem?_bubble (xs:=arrOf st2) (src:=lo+x) (by omega) (lo+x - (lo+l)) (by omega)
   refine wpS_bind (wpS_modify (wpS_pure ⟨rfl,P1.set (bubble_perm _ _ _) (fun i hi=>?_),pd1,?_⟩))
   ·rw [gb,if_neg (by omega),if_neg (by omega)]
   ·rw [show min (x+1) n=x+1 by omega]
    have kb:∀ i,i≤x→ky k (bubble (arrOf st2) (lo+x) (lo+x - (lo+l))) (lo+i)=if i=l then ky k (arrOf st2) (lo+x) else if l<i then ky k (arrOf st2) (lo+(i - 1)) else ky k (arrOf st2) (lo+i):=fun i hi=>by
     unfold ky
     rw [gb]
     by_cases e1:i=l
     ·rw [if_pos (by omega),if_pos e1]
     ·rw [if_neg (by omega),if_neg e1]
      by_cases e2:l<i
      ·rw [if_pos (by omega),if_pos e2,show lo+i - 1=lo+(i - 1) by omega]
      ·rw [if_neg (by omega),if_neg e2]
    intro i j hij hj
    show ky k (bubble (arrOf st2) (lo+x) (lo+x - (lo+l))) (lo+i)<ky k (bubble (arrOf st2) (lo+x) (lo+x - (lo+l))) (lo+j)
    rw [kb i (by omega),kb j (by omega)]
    by_cases e1:i=l
    ·rw [if_pos e1,if_neg (by omega),if_pos (by omega)]
     exact b2 (j - 1) (by omega) (by omega)
    ·rw [if_neg e1]
     by_cases e2:j=l
     ·rw [if_pos e2,if_neg (by omega)]
      exact b1 i (by omega)
     ·rw [if_neg e2]
      by_cases e3:l<i
      ·rw [if_pos e3,if_pos (by omega)]
       exact up1 (i - 1) (j - 1) (by omega) (by omega)
      ·rw [if_neg e3]
       by_cases e4:l<j
       ·rw [if_pos e4]
        by_cases e5:i=j - 1
        ·exact absurd e5 (by omega)
        ·exact up1 i (j - 1) (by omega) (by omega)
       ·rw [if_neg e4]
        exact up1 i j hij (by omega)
 ·rintro c st1 ⟨rfl,P1,pd1,up1⟩
  rw [show min (max (max g 1) n) n=n by omega] at up1
  exact ⟨rfl,P1,pd1,up1⟩
 ·intro i j hij hj
  by_cases e:g=0
  ·omega
  ·exact up i j hij (by omega)
 ·rintro c st1 ⟨rfl,P1,pd1,up1⟩
  exact wpS_pure (q _ P1 pd1 up1)
end
end SR
namespace SR
open PySem PyProof.Rows
section
variable {prog:Program} {w:World} {A:Around} {E:Value→Shared→Prop} {s:Shared} {k:Keyed→Int} {ok:Keyed→Prop} {a0:Array Keyed} {lo:Nat} {st:SortSt}
theorem Up.snoc {a:Array Keyed} {n:Nat} (up:Up k a lo n) (h:1≤n) (hlt:ky k a (lo+(n - 1))<ky k a (lo+n)):Up k a lo (n+1):=by
 intro i j hij hj
 by_cases e:j=n
 ·subst e
  by_cases e2:i=j - 1
  ·rw [e2];exact hlt
  ·have:=up i (j - 1) (by omega) (by omega);omega
 ·exact up i j hij (by omega)
theorem Nq (hL:Bh prog w A E s k ok) {n:Nat} {Q:Option Nat→SortSt→Prop} (hn:lo+n≤a0.size) (h1:1≤n) (h:Pl k ok a0 lo st)
  (q:∀ m st',Pl k ok a0 lo st'→pendingOf st' = pendingOf st→1≤m→m≤n→Up k (arrOf st') lo m→Q (some m) st'):wpS (model prog w) A E s (countRun' lo n) Q st:=by
 rw [countRun'_eq]
 extract_lets
 refine wpS_bind (wpS_mono (wpS_forRange (I:=fun x c st'=>st' = st∧c=(none,x)∧Up k (arrOf st) lo x)
  (Q:=fun c st'=>st' = st∧∃ m,c=(none,m)∧1≤m∧m≤n∧Up k (arrOf st) lo m∧(m=n∨ky k (arrOf st) (lo+m)<ky k (arrOf st) (lo+(m - 1)))) ?_ ?_ ⟨rfl,rfl,fun i j h2 h3=>absurd h3 (by omega)⟩) ?_)
 ·rintro x c st1 hx1 hx2 ⟨rfl,rfl,up⟩
  dsimp only
  refine wpS_bind (wp_at hL h (by omega) (by omega) ?_)
  rw [show lo+x - 1=lo+(x - 1) by omega]
  by_cases c1:ky k (arrOf st1) (lo+x)<ky k (arrOf st1) (lo+(x - 1))
  ·rw [decide_eq_true c1]
   exact wpS_pure ⟨rfl,x,rfl,hx1,by omega,up,.inr c1⟩
  ·rw [decide_eq_false c1]
   have:=h.ne (i:=lo+x) (j:=lo+(x - 1)) (by omega) (by omega) (by omega)
   exact wpS_pure ⟨rfl,rfl,up.snoc hx1 (by omega)⟩
 ·rintro c st1 ⟨rfl,rfl,up⟩
  exact ⟨rfl,max 1 n,rfl,by omega,by omega,up,.inl (by omega)⟩
 ·rintro c st1 ⟨rfl,m,rfl,hm1,hm2,up,hm⟩
  extract_lets
  rename_i jp
  show wpS _ _ _ _ (if (m == n)=true then pure (some m) else if m > 1 then _ else jp ()) _ _
  by_cases e:m=n
  ·rw [if_pos (by simpa using e)]
   exact wpS_pure (q m _ h rfl hm1 hm2 up)
  rw [if_neg (by simpa using e)]
  have hlt:=hm.resolve_left e
  by_cases e1:m > 1
  ·rw [if_pos e1]
   refine wpS_bind (wp_at hL h (by omega) (by omega) ?_)
   have h3:ky k (arrOf st1) lo<ky k (arrOf st1) (lo+m - 1):=by
    have:=up 0 (m - 1) (by omega) (by omega)
    rw [Nat.add_zero] at this
    rw [show lo+m - 1=lo+(m - 1) by omega];exact this
   rw [decide_eq_true h3]
   exact wpS_pure (q m _ h rfl hm1 hm2 up)
  rw [if_neg e1]
  have e2:m=1:=by omega
  subst e2
  refine wpS_bind (wpS_lift (wpAny_rule ⟨rfl,?_⟩))
  refine wpS_bind (wpS_mono (wpS_forRange (I:=fun x c st'=>st' = st1∧c=(none,x,0)∧∀ i j,i<j→j<x→ky k (arrOf st1) (lo+j)<ky k (arrOf st1) (lo+i))
   (Q:=fun c st'=>st' = st1∧∃ m,c=(none,m,0)∧2≤m∧m≤n∧∀ i j,i<j→j<m→ky k (arrOf st1) (lo+j)<ky k (arrOf st1) (lo+i)) ?_ ?_ ⟨rfl,rfl,fun i j h2 h3=>?_⟩) ?_)
  ·rintro x c st2 hx1 hx2 ⟨rfl,rfl,dn⟩
   have hx1:2≤x:=hx1
   dsimp only
   refine wpS_bind (wp_at hL h (by omega) (by omega) ?_)
   rw [show lo+x - 1=lo+(x - 1) by omega]
   by_cases c1:ky k (arrOf st2) (lo+x)<ky k (arrOf st2) (lo+(x - 1))
   ·rw [decide_eq_true c1]
    dsimp only
    rw [if_pos rfl,if_neg (by omega)]
    refine wpS_pure ⟨rfl,rfl,fun i j h2 h3=>?_⟩
    by_cases e3:j=x
    ·subst e3
     by_cases e4:i=j - 1
     ·rw [e4];exact c1
     ·have:=dn i (j - 1) (by omega) (by omega);omega
    ·exact dn i j h2 (by omega)
   ·rw [decide_eq_false c1]
    dsimp only
    rw [if_neg (by decide)]
    refine wpS_bind (wp_at hL h (by omega) (by omega) ?_)
    have:=h.ne (i:=lo+x) (j:=lo+(x - 1)) (by omega) (by omega) (by omega)
    rw [decide_eq_true (show ky k (arrOf st2) (lo+(x - 1))<ky k (arrOf st2) (lo+x) by omega)]
    exact wpS_pure ⟨rfl,x,rfl,hx1,by omega,dn⟩
  ·rintro c st2 ⟨rfl,rfl,dn⟩
   have e5:max (1+1) n=n:=by omega
   exact ⟨rfl,max (1+1) n,rfl,by omega,by omega,dn⟩
  ·have h3:j<1+1:=h3
   have:j=1:=by omega
   subst this
   have:i=0:=by omega
   subst this
   exact hlt
  ·rintro c st2 ⟨rfl,m,rfl,hm1,hm2,dn⟩
   dsimp only
   rw [if_neg (by omega)]
   have hsz:=h.size
   have gm:=getElem?_mirror_all (xs:=arrOf st2) (i:=lo) (j:=lo+m) (by omega)
   refine wpS_bind (wpS_reverse ?_)
   have P2:Pl k ok a0 lo (setArr st2 (mirror (arrOf st2) lo (lo+m) ((lo+m - lo) / 2))):=h.set (mirror_perm _ _ _ _) (fun i hi=>by rw [gm,if_neg (by omega)])
   have ZF:Up k (mirror (arrOf st2) lo (lo+m) ((lo+m - lo) / 2)) lo m:=by
    have km:∀ i,i<m→ky k (mirror (arrOf st2) lo (lo+m) ((lo+m - lo) / 2)) (lo+i)=ky k (arrOf st2) (lo+(m - 1 - i)):=fun i hi=>by
     unfold ky
     rw [gm,if_pos (by omega),show lo+(lo+m) - 1 - (lo+i)=lo+(m - 1 - i) by omega]
    intro i j hij hj
    rw [km i (by omega),km j hj]
    exact dn (m - 1 - j) (m - 1 - i) (by omega) (by omega)
   have pd2:pendingOf (setArr st2 (mirror (arrOf st2) lo (lo+m) ((lo+m - lo) / 2)))=pendingOf st2:=rfl
   have ar2:arrOf (setArr st2 (mirror (arrOf st2) lo (lo+m) ((lo+m - lo) / 2)))=mirror (arrOf st2) lo (lo+m) ((lo+m - lo) / 2):=rfl
   rw [←ar2] at ZF
   generalize setArr st2 (mirror (arrOf st2) lo (lo+m) ((lo+m - lo) / 2))=st3 at P2 ZF pd2
   refine wpS_bind (wpS_mono (wpS_forRange (I:=fun x c st'=>st' = st3∧c=(none,x)∧Up k (arrOf st3) lo x)
    (Q:=fun c st'=>st' = st3∧∃ m,c=(none,m)∧1≤m∧m≤n∧Up k (arrOf st3) lo m) ?_ ?_ ⟨rfl,rfl,ZF⟩) ?_)
   ·rintro x c st1 hx1 hx2 ⟨rfl,rfl,up⟩
    dsimp only
    refine wpS_bind (wp_at hL P2 (by omega) (by omega) ?_)
    rw [show lo+x - 1=lo+(x - 1) by omega]
    by_cases c1:ky k (arrOf st1) (lo+x)<ky k (arrOf st1) (lo+(x - 1))
    ·rw [decide_eq_true c1]
     exact wpS_pure ⟨rfl,x,rfl,by omega,by omega,up⟩
    ·rw [decide_eq_false c1]
     have:=P2.ne (i:=lo+x) (j:=lo+(x - 1)) (by omega) (by omega) (by omega)
     exact wpS_pure ⟨rfl,rfl,up.snoc (by omega) (by omega)⟩
   ·rintro c st1 ⟨rfl,rfl,up⟩
    exact ⟨rfl,max m n,rfl,by omega,by omega,up⟩
   ·rintro c st1 ⟨rfl,m,rfl,hm1,hm2,up⟩
    exact wpS_pure (q m _ P2 pd2 hm1 hm2 up)
end
end SR
namespace SR
open PySem PyProof.Rows
theorem ZG {M:Model} {A:Around} {E:Value→Shared→Prop} {s:Shared} {σ:Type} {Q:PUnit→σ→Prop} {st st':σ} (h:Q ⟨⟩ st'):wpS M A E s (set st':StateT σ Sem PUnit) Q st:=by
 show wpS M A E s (modify fun _=>st') Q st
 exact wpS_modify h
theorem JD (c:Nat):∀ (l:List Keyed) (i:Nat) (a:Array Keyed),c+i+l.length≤a.size→((l.zipIdx i).foldl (fun a x=>a.setIfInBounds (c+x.2) x.1) a).toList=a.toList.take (c+i)++l++a.toList.drop (c+i+l.length)
 | [],i,a,h=>by
  show a.toList=_
  rw [List.append_nil,List.length_nil,Nat.add_zero,List.take_append_drop]
 | x::r,i,a,h=>by
  rw [List.length_cons] at h
  rw [List.zipIdx_cons,List.foldl_cons,JD c r (i+1) _ (by rw [Array.size_setIfInBounds];omega),Array.toList_setIfInBounds]
  have h1:(a.toList.set (c+i) x).take (c+(i+1))=a.toList.take (c+i)++[x]:=by
   rw [show c+(i+1)=c+i+1 by omega,List.take_add_one,List.getElem?_set,if_pos rfl,if_pos (by rw [Array.length_toList];omega),List.take_set_of_le (Nat.le_refl _)]
   rfl
  rw [h1,List.drop_set_of_lt (by omega),List.length_cons,show c+(i+1)+r.length=c+i+(r.length+1) by omega]
  simp
section
variable {k:Keyed→Int}
theorem Kr {a:Array Keyed} {lo n:Nat} (up:Up k a lo n) (h:lo+n≤a.size):jw k ((a.toList.drop lo).take n):=by
 unfold jw
 rw [List.pairwise_iff_getElem]
 intro i j hi hj hij
 have hj':j<n:=by rw [List.length_take] at hj;omega
 have:=up i j hij hj'
 unfold ky at this
 have e1:∀ t,t<n→∀ (ht:t<((a.toList.drop lo).take n).length),a[lo+t]? = some ((a.toList.drop lo).take n)[t]:=fun t h1 ht=>by
  rw [List.getElem_take,List.getElem_drop,←Array.getElem?_toList,List.getElem?_eq_getElem]
 rw [e1 i (by omega) hi,e1 j hj' hj] at this
 exact this
theorem abM {a:Array Keyed} (h:jw k a.toList):Up k a 0 a.size:=by
 intro i j hij hj
 rw [Nat.zero_add,Nat.zero_add]
 obtain ⟨x,g1,g2,g3⟩:=d9 (a:=a) (i:=i) (by omega)
 obtain ⟨y,f1,f2,f3⟩:=d9 (a:=a) (i:=j) hj
 unfold ky
 rw [g1,f1]
 exact vo h g2 f2 hij
theorem X7 {ok:Keyed→Prop} {arr:Array Keyed} {left:Bool} {key:Keyed} {base n:Nat} (up:Up k arr base n) (XS:∀ x∈arr.toList,ok x) (h:base+n≤arr.size):Str k ok left key arr base n (fun i=>(arr[base+i]?).elim false (rQ k left key)) where
 at_:=fun i hi=>by
  obtain ⟨x,h1,h2,h3⟩:=d9 (a:=arr) (i:=base+i) (by omega)
  exact ⟨x,h1,XS x h3,by rw [h1];rfl⟩
 mono:=fun i j hij hj hb=>by
  obtain ⟨x,h1,h2,h3⟩:=d9 (a:=arr) (i:=base+i) (by omega)
  obtain ⟨y,g1,g2,g3⟩:=d9 (a:=arr) (i:=base+j) (by omega)
  have hxy:k x≤k y:=by
   by_cases e:i=j
   ·subst e;rw [h1] at g1;cases g1;exact Int.le_refl _
   ·have:=up i j (by omega) hj
    unfold ky at this
    rw [h1,g1] at this
    exact Int.le_of_lt this
  rw [h1]
  rw [g1] at hb
  show rQ k left key x=true
  have hb':rQ k left key y=true:=hb
  unfold rQ at hb' ⊢
  cases left with
  | true =>
   rw [if_pos rfl] at hb' ⊢
   have:=of_decide_eq_true hb'
   exact decide_eq_true (by omega)
  | false =>
   rw [if_neg (by decide)] at hb' ⊢
   have h5:¬ k key<k y:=by simpa using hb'
   have:¬ k key<k x:=by omega
   simpa using this
theorem ZJ {la lb r:List Keyed} {m1 m2:Nat} {y0 xl:Keyed} (sa:jw k la) (sb:jw k lb) (G:Good k (la.drop m1) (lb.take m2) r) (F1:∀ x∈la.take m1,k x<k y0) (F4:∀ y∈lb.drop m2,k xl<k y) (mn:∀ y∈lb,k y0≤k y) (mx:∀ x∈la,k x≤k xl) :
  jw k (la.take m1++r++lb.drop m2):=by
 have sa':=sa
 rw [←List.take_append_drop m1 la] at sa'
 have sb':=sb
 rw [←List.take_append_drop m2 lb] at sb'
 obtain ⟨a1,a2,a3⟩:=List.pairwise_append.mp sa'
 obtain ⟨b1,b2,b3⟩:=List.pairwise_append.mp sb'
 refine List.pairwise_append.mpr ⟨List.pairwise_append.mpr ⟨a1,G.st,fun x hx y hy=>?_⟩,b2,fun x hx y hy=>?_⟩
 ·rcases List.mem_append.mp (G.pm.mem_iff.mp hy) with z | z
  ·exact a3 x hx y z
  ·have:=F1 x hx
   have:=mn y (List.mem_of_mem_take z)
   omega
 ·have h4:=F4 y hy
  rcases List.mem_append.mp hx with z | z
  ·have:=mx x (List.mem_of_mem_take z);omega
  ·rcases List.mem_append.mp (G.pm.mem_iff.mp z) with z2 | z2
   ·have:=mx x (List.mem_of_mem_drop z2);omega
   ·exact b3 x z2 y hy
theorem X8 {la lb r:List Keyed} {m1 m2:Nat} (G:Good k (la.drop m1) (lb.take m2) r):(la.take m1++r++lb.drop m2).Perm (la++lb):=by
 have h1:(la.take m1++r++lb.drop m2).Perm (la.take m1++(la.drop m1++lb.take m2)++lb.drop m2):=List.Perm.append_right _ (List.Perm.append_left _ G.pm)
 have h2:la.take m1++(la.drop m1++lb.take m2)++lb.drop m2=la++lb:=by rw [←List.append_assoc,List.take_append_drop,List.append_assoc,List.take_append_drop]
 rw [h2] at h1
 exact h1
end
section
variable {prog:Program} {w:World} {A:Around} {E:Value→Shared→Prop} {s:Shared} {k:Keyed→Int} {ok:Keyed→Prop} {a0:Array Keyed} {st:SortSt}
theorem PX (hL:Bh prog w A E s k ok) {n1 n2 p1 p2:Nat} {Q:Bool→SortSt→Prop} (hn:n1+n2=a0.size) (h1:1≤n1) (h2:1≤n2) (h:Pl k ok a0 0 st) (hp:pendingOf st = #[(0,n1,p1),(n1,n2,p2)]) (u1:Up k (arrOf st) 0 n1) (u2:Up k (arrOf st) n1 n2)
  (q:∀ st',Pl k ok a0 0 st'→pendingOf st' = #[(0,n1+n2,p1)]→Up k (arrOf st') 0 (n1+n2)→Q true st'):wpS (model prog w) A E s (mergeAt' 0) Q st:=by
 obtain ⟨κ,a,pd,g,f,rfl⟩:∃ κ a pd g f,st=SortSt.mk' κ a pd g f:=⟨kindOf st,arrOf st,pendingOf st,gallopOf st,failedOf st,by cases st;rfl⟩
 cases (show pd=_ from hp)
 refine wpS_bind (wpS_get ?_)
 dsimp only
 rw [show (#[(0,n1,p1),(n1,n2,p2)]:Array (Nat×Nat×Nat))[0]? = some (0,n1,p1) from rfl,show (#[(0,n1,p1),(n1,n2,p2)]:Array (Nat×Nat×Nat))[0+1]? = some (n1,n2,p2) from rfl]
 dsimp only
 have hsz:a.size=n1+n2:=by have:=h.size;rw [hn];exact this
 have hlen:a.toList.length=n1+n2:=by rw [Array.length_toList];exact hsz
 have okA:∀ x∈a.toList,ok x:=fun x hx=>h.oks x (h.pm.toList.mem_iff.mp hx)
 have hab:a.toList.take n1++a.toList.drop n1=a.toList:=List.take_append_drop _ _
 have sa:jw k (a.toList.take n1):=by
  have:=Kr (lo:=0) u1 (by show 0+n1≤a.size;omega)
  rw [List.drop_zero] at this;exact this
 have sb:jw k (a.toList.drop n1):=by
  have:=Kr (lo:=n1) u2 (by show n1+n2≤a.size;omega)
  rw [List.take_of_length_le (by rw [List.length_drop];show a.toList.length - n1≤n2;omega)] at this;exact this
 have abN:∀ x∈a.toList.take n1,∀ y∈a.toList.drop n1,k x≠k y:=fun x hx y hy=>by
  have nd:(a.toList.map k).Nodup:=(h.pm.toList.map k).nodup_iff.mpr h.nd
  rw [←hab,List.map_append,List.nodup_append] at nd
  exact nd.2.2 _ (List.mem_map_of_mem hx) _ (List.mem_map_of_mem hy)
 obtain ⟨y0,hy0,ad8,ad9⟩:=d9 (a:=a) (i:=n1) (by omega)
 obtain ⟨xl,hxl,aea,aeb⟩:=d9 (a:=a) (i:=n1 - 1) (by omega)
 have y0b:(a.toList.drop n1)[0]? = some y0:=by rw [List.getElem?_drop,Nat.add_zero];exact ad8
 have y0m:y0∈a.toList.drop n1:=List.mem_of_getElem? y0b
 have xla:(a.toList.take n1)[n1 - 1]? = some xl:=by rw [List.getElem?_take,if_pos (by omega)];exact aea
 have xlm:xl∈a.toList.take n1:=List.mem_of_getElem? xla
 have mn:∀ y∈a.toList.drop n1,k y0≤k y:=fun y hy=>by
  obtain ⟨j,hj⟩:=List.mem_iff_getElem?.mp hy
  by_cases e:j=0
  ·subst e;rw [y0b] at hj;cases hj;exact Int.le_refl _
  ·exact Int.le_of_lt (vo sb y0b hj (by omega))
 have mx:∀ x∈a.toList.take n1,k x≤k xl:=fun x hx=>by
  obtain ⟨j,hj⟩:=List.mem_iff_getElem?.mp hx
  have hj2:j<n1:=by have:=(List.getElem?_eq_some_iff.mp hj).1;rw [List.length_take] at this;omega
  by_cases e:j=n1 - 1
  ·subst e;rw [xla] at hj;cases hj;exact Int.le_refl _
  ·exact Int.le_of_lt (vo sa hj xla (by omega))
 have pend:((#[(0,n1,p1),(n1,n2,p2)]:Array (Nat×Nat×Nat)).setIfInBounds 0 (0,n1+n2,p1)).eraseIdxIfInBounds (0+1) = #[(0,n1+n2,p1)]:=by simp
 rw [pend]
 refine wpS_bind (ZG ?_)
 have whole:∀ (a':Array Keyed) (g':Nat),a'.toList.Perm a.toList→jw k a'.toList→Q true (SortSt.mk' κ a' #[(0,n1+n2,p1)] g' f):=fun a' g' hp' hs'=>by
  have hz:a'.size=n1+n2:=by rw [←Array.length_toList,hp'.length_eq];exact hlen
  refine q _ ⟨?_,h.kd,h.fl,h.oks,h.nd,fun i hi=>absurd hi (by omega)⟩ rfl ?_
  ·exact (Array.perm_iff_toList_perm.mpr hp').trans h.pm
  ·have:=abM hs'
   rw [hz] at this
   exact this
 have kd:kindOf (SortSt.mk' κ a #[(0,n1+n2,p1)] g f)=oneType':=h.kd
 refine wpS_bind (cg hy0 (wpS_bind (mX hL (okA y0 ad9) kd (X7 (base:=0) (n:=n1) u1 okA (by omega)) (show 0<n1 by omega) (fun m1 hm1 hb1 hb2=>?_))))
 have hb2:∀ t,m1≤t→t<n1→(a[0+t]?).elim false (rQ k false y0)=false:=hb2
 have F1:∀ x∈(a.toList.take n1).take m1,k x<k y0:=fun x hx=>by
  have hxa:=List.mem_of_mem_take hx
  obtain ⟨t,ht,e⟩:=j8 hx
  rw [List.getElem?_take,if_pos (by omega)] at e
  have h3:=hb1 t ht
  obtain ⟨x',g1,g2,g3⟩:=d9 (a:=a) (i:=t) (by omega)
  rw [g2] at e;cases e
  rw [Nat.zero_add,g1] at h3
  have h4:rQ k false y0 x=true:=h3
  unfold rQ at h4
  rw [if_neg (by decide)] at h4
  have h5:¬ k y0<k x:=by simpa using h4
  have:=abN x hxa y0 y0m
  omega
 have F2:∀ x∈(a.toList.take n1).drop m1,k y0<k x:=fun x hx=>by
  obtain ⟨t,ht1,ZD,e⟩:=xY hx
  have h3:=hb2 t ht1 ZD
  obtain ⟨x',g1,g2,g3⟩:=d9 (a:=a) (i:=t) (by omega)
  rw [g2] at e;cases e
  rw [Nat.zero_add,g1] at h3
  have h4:rQ k false y0 x=false:=h3
  unfold rQ at h4
  rw [if_neg (by decide)] at h4
  simpa using h4
 dsimp only
 by_cases e1:n1 - m1=0
 ·rw [if_pos (by simpa using e1)]
  refine wpS_pure (whole a g (List.Perm.refl _) ?_)
  rw [←hab]
  refine List.pairwise_append.mpr ⟨sa,sb,fun x hx y hy=>?_⟩
  have:=F1 x (by rw [List.take_of_length_le (by rw [List.length_take];omega)];exact hx)
  have:=mn y hy
  omega
 rw [if_neg (by simpa using e1)]
 rw [show 0+m1+(n1 - m1) - 1=n1 - 1 by omega]
 refine wpS_bind (cg hxl (wpS_bind (mX hL (okA xl aeb) kd (X7 (base:=n1) (n:=n2) u2 okA (by omega)) (show n2 - 1<n2 by omega) (fun m2 hm2 hc1 hc2=>?_))))
 have hm2:m2≤n2:=hm2
 have hc2:∀ t,m2≤t→t<n2→(a[n1+t]?).elim false (rQ k true xl)=false:=hc2
 have F3:∀ y∈(a.toList.drop n1).take m2,k y<k xl:=fun y hy=>by
  obtain ⟨t,ht,e⟩:=j8 hy
  rw [List.getElem?_drop] at e
  have h3:=hc1 t ht
  obtain ⟨x',g1,g2,g3⟩:=d9 (a:=a) (i:=n1+t) (by omega)
  rw [g2] at e;cases e
  rw [g1] at h3
  have h4:rQ k true xl y=true:=h3
  unfold rQ at h4
  rw [if_pos rfl] at h4
  exact of_decide_eq_true h4
 have F4:∀ y∈(a.toList.drop n1).drop m2,k xl<k y:=fun y hy=>by
  have hyb:=List.mem_of_mem_drop hy
  obtain ⟨j,hj⟩:=List.mem_iff_getElem?.mp hy
  rw [List.getElem?_drop,List.getElem?_drop] at hj
  have hj2:=(List.getElem?_eq_some_iff.mp hj).1
  have h3:=hc2 (m2+j) (by omega) (by omega)
  obtain ⟨x',g1,g2,g3⟩:=d9 (a:=a) (i:=n1+(m2+j)) (by omega)
  rw [g2] at hj;cases hj
  rw [g1] at h3
  have h4:rQ k true xl y=false:=h3
  unfold rQ at h4
  rw [if_pos rfl] at h4
  have h5:=of_decide_eq_false h4
  have:=abN xl xlm y hyb
  omega
 dsimp only
 by_cases e2:m2=0
 ·rw [if_pos (by simpa using e2)]
  subst e2
  refine wpS_pure (whole a g (List.Perm.refl _) ?_)
  rw [←hab]
  refine List.pairwise_append.mpr ⟨sa,sb,fun x hx y hy=>?_⟩
  have:=F4 y (by rw [List.drop_zero];exact hy)
  have:=mx x hx
  omega
 rw [if_neg (by simpa using e2)]
 have ex:(a.extract (0+m1) n1).toList=(a.toList.take n1).drop m1:=by
  rw [Array.toList_extract,List.extract_eq_take_drop,Nat.zero_add,List.drop_take]
 have ey:(a.extract n1 (n1+m2)).toList=(a.toList.drop n1).take m2:=Ti a n1 m2
 have zx:(a.extract (0+m1) n1).size=n1 - m1:=by rw [←Array.length_toList,ex,List.length_drop,List.length_take];omega
 have zy:(a.extract n1 (n1+m2)).size=m2:=by rw [←Array.length_toList,ey,List.length_take,List.length_drop];omega
 have ac1:∀ (r:Array Keyed) (st':SortSt),Good k (a.extract (0+m1) n1).toList (a.extract n1 (n1+m2)).toList r.toList→Alike (SortSt.mk' κ a #[(0,n1+n2,p1)] g f) st'→Q true (SortSt.mk' (kindOf st') (r.toList.zipIdx.foldl (fun a x=>a.setIfInBounds (0+m1+x.2) x.1) (arrOf st')) (pendingOf st') (gallopOf st') (failedOf st')):=fun r st' G al=>by
  rw [ex,ey] at G
  have hr:r.toList.length=(n1 - m1)+m2:=by rw [G.pm.length_eq,List.length_append,List.length_drop,List.length_take,List.length_take,List.length_drop];omega
  rw [al.ar,al.kd,al.pd,al.fl]
  show Q true (SortSt.mk' κ (r.toList.zipIdx.foldl (fun a x=>a.setIfInBounds (0+m1+x.2) x.1) a) #[(0,n1+n2,p1)] (gallopOf st') f)
  have ol:=JD (0+m1) r.toList 0 a (by omega)
  have el:a.toList.take (0+m1+0)++r.toList++a.toList.drop (0+m1+0+r.toList.length)=(a.toList.take n1).take m1++r.toList++(a.toList.drop n1).drop m2:=by
   rw [List.take_take,List.drop_drop,hr,show min m1 n1=m1 by omega,show 0+m1+0=m1 by omega,show m1+(n1 - m1+m2)=n1+m2 by omega]
  rw [el] at ol
  refine whole _ _ ?_ ?_
  ·rw [ol]
   have:=X8 G
   rw [hab] at this;exact this
  ·rw [ol]
   exact ZJ sa sb G F1 F4 mn mx
 have okx:∀ x∈(a.extract (0+m1) n1).toList,ok x:=fun x hx=>by rw [ex] at hx;exact okA x (List.mem_of_mem_take (List.mem_of_mem_drop hx))
 have oky:∀ x∈(a.extract n1 (n1+m2)).toList,ok x:=fun x hx=>by rw [ey] at hx;exact okA x (List.mem_of_mem_drop (List.mem_of_mem_take hx))
 have sx:jw k (a.extract (0+m1) n1).toList:=by rw [ex];exact sa.sublist (List.drop_sublist _ _)
 have sy:jw k (a.extract n1 (n1+m2)).toList:=by rw [ey];exact sb.sublist (List.take_sublist _ _)
 have dis:∀ x∈(a.extract (0+m1) n1).toList,∀ y∈(a.extract n1 (n1+m2)).toList,k x≠k y:=fun x hx y hy=>by
  rw [ex] at hx;rw [ey] at hy
  exact abN x (List.mem_of_mem_drop hx) y (List.mem_of_mem_take hy)
 have xZ:∀ x,(a.extract n1 (n1+m2)).toList[0]? = some x→x=y0:=fun x hx=>by
  rw [ey,List.getElem?_take,if_pos (by omega),y0b] at hx
  exact (Option.some.inj hx).symm
 have Ga:∀ x,(a.extract (0+m1) n1).toList[(a.extract (0+m1) n1).toList.length - 1]? = some x→∀ y∈(a.extract n1 (n1+m2)).toList,k y<k x:=fun x hx y hy=>by
  rw [Array.length_toList,zx,ex,List.getElem?_drop,show m1+(n1 - m1 - 1)=n1 - 1 by omega,xla] at hx
  cases hx
  rw [ey] at hy
  exact F3 y hy
 by_cases e3:n1 - m1≤m2
 ·rw [if_pos e3]
  refine wpS_bind (PL hL kd okx oky sx sy dis (by omega) (by omega) (fun x y hx hy=>?_) Ga (fun r st' G al=>?_))
  ·rw [xZ y hy]
   rw [ex] at hx
   exact F2 x (List.mem_of_getElem? hx)
  ·refine wpS_bind (wpS_modify (wpS_bind (wpS_get (wpS_pure ?_))))
   have:=ac1 r st' G al
   have hfl:(failedOf st').isNone=true:=by rw [al.fl.trans h.fl];rfl
   show Q (failedOf st').isNone _
   rw [hfl];exact this
 ·rw [if_neg e3]
  refine wpS_bind (PN hL kd okx oky sx sy dis (by omega) (by omega) (fun x hx y hy=>?_) Ga (fun r st' G al=>?_))
  ·rw [xZ x hx]
   rw [ex] at hy
   exact F2 y hy
  ·refine wpS_bind (wpS_modify (wpS_bind (wpS_get (wpS_pure ?_))))
   have:=ac1 r st' G al
   have hfl:(failedOf st').isNone=true:=by rw [al.fl.trans h.fl];rfl
   show Q (failedOf st').isNone _
   rw [hfl];exact this
end
end SR
namespace SR
open PySem PyProof.Rows
theorem Ux {n:Nat} (h2:2≤n) (h:n<128):∃ M,minRun' n n 0=M∧1≤M∧M≤n∧n≤2*M:=by
 obtain ⟨f,rfl⟩:∃ f,n=f+1:=⟨n - 1,by omega⟩
 rw [minRun'_succ]
 by_cases e:f+1<64
 ·rw [if_pos e];exact ⟨_,rfl,by omega,by omega,by omega⟩
 ·rw [if_neg e]
  obtain ⟨g,rfl⟩:∃ g,f=g+1:=⟨f - 1,by omega⟩
  rw [minRun'_succ,if_pos (by omega)]
  exact ⟨_,rfl,by omega,by omega,by omega⟩
section
variable {prog:Program} {w:World} {A:Around} {E:Value→Shared→Prop} {s:Shared} {k:Keyed→Int} {ok:Keyed→Prop} {a0:Array Keyed} {st:SortSt}
theorem Pl.own (h:Pl k ok a0 0 st) (lo:Nat):Pl k ok (arrOf st) lo st :=
 ⟨Array.Perm.refl _,h.kd,h.fl,fun x hx=>h.oks x (h.pm.toList.mem_iff.mp hx),(h.pm.toList.map k).nodup_iff.mpr h.nd,fun _ _=>rfl⟩
theorem Pl.back {st':SortSt} {lo:Nat} (h:Pl k ok a0 0 st) (h':Pl k ok (arrOf st) lo st'):Pl k ok a0 0 st' :=
 ⟨h'.pm.trans h.pm,h'.kd,h'.fl,h.oks,h.nd,fun i hi=>absurd hi (by omega)⟩
theorem Up.keep {a b:Array Keyed} {n:Nat} (up:Up k a 0 n) (h:∀ i,i<n→b[i]? = a[i]?):Up k b 0 n:=by
 intro i j hij hj
 have:=up i j hij hj
 unfold ky at this ⊢
 rw [h (0+i) (by omega),h (0+j) (by omega)]
 exact this
theorem mod_one (x:Nat×Nat×Nat) (f:Nat×Nat×Nat→Nat×Nat×Nat):(#[x]:Array (Nat×Nat×Nat)).modify ((#[x]:Array (Nat×Nat×Nat)).size - 1) f = #[f x]:=by
 rfl
def One (k:Keyed→Int) (a0:Array Keyed) (st:SortSt):Prop:=∃ p,pendingOf st = #[(0,a0.size,p)]∧Up k (arrOf st) 0 a0.size
def Two (k:Keyed→Int) (a0:Array Keyed) (st:SortSt):Prop:=∃ n1 n2 p,pendingOf st = #[(0,n1,p),(n1,n2,0)]∧n1+n2=a0.size∧1≤n1∧1≤n2∧Up k (arrOf st) 0 n1∧Up k (arrOf st) n1 n2
theorem Tp (hL:Bh prog w A E s k ok) {Q:Unit→SortSt→Prop} (h2:2≤a0.size) (aec:a0.size<128) (h:Pl k ok a0 0 st) (hp:pendingOf st = #[])
  (q:∀ st',Pl k ok a0 0 st'→Up k (arrOf st') 0 a0.size→Q () st'):wpS (model prog w) A E s sortRuns' Q st:=by
 obtain ⟨M,hM,M1,M2,M3⟩:=Ux h2 aec
 rw [sortRuns'_eq]
 refine wpS_bind (wpS_get ?_)
 dsimp (config:={ zeta:=false }) only
 simp only [h.size,hM]
 refine wpS_bind (wpS_mono (wpS_forRange (I:=fun x c st'=>Pl k ok a0 0 st'∧((x=0∧c=(none,0)∧pendingOf st' = #[])∨(∃ n1,x=1∧c=(none,n1)∧M≤n1∧n1<a0.size∧pendingOf st' = #[(0,n1,0)]∧Up k (arrOf st') 0 n1)∨(1≤x∧c=(none,a0.size)∧(One k a0 st'∨Two k a0 st'))))
  (Q:=fun c st'=>Pl k ok a0 0 st'∧c=(none,a0.size)∧(One k a0 st'∨Two k a0 st')) ?_ ?_ ⟨h,.inl ⟨rfl,rfl,hp⟩⟩) ?_)
 ·rintro x c st1 _ hx ⟨P1,⟨rfl,rfl,hp1⟩ | ⟨n1,rfl,rfl,g1,g2,hp1,up1⟩ | ⟨hx1,rfl,d⟩⟩
  ·dsimp (config:={ zeta:=false }) only
   rw [if_neg (by omega)]
   have vq:∀ (n:Nat) (st3:SortSt),Pl k ok a0 0 st3→pendingOf st3 = #[]→M≤n→n≤a0.size→Up k (arrOf st3) 0 n→Pl k ok a0 0 (setPending st3 ((pendingOf st3).push (0,n,0)))∧((0+1=0∧((none:Option Unit),0+n)=(none,0)∧pendingOf (setPending st3 ((pendingOf st3).push (0,n,0))) = #[])∨(∃ n1,0+1=1∧((none:Option Unit),0+n)=(none,n1)∧M≤n1∧n1<a0.size∧pendingOf (setPending st3 ((pendingOf st3).push (0,n,0))) = #[(0,n1,0)]∧Up k (arrOf (setPending st3 ((pendingOf st3).push (0,n,0)))) 0 n1)∨(1≤0+1∧((none:Option Unit),0+n)=(none,a0.size)∧(One k a0 (setPending st3 ((pendingOf st3).push (0,n,0)))∨Two k a0 (setPending st3 ((pendingOf st3).push (0,n,0)))))):=fun n st3 P3 hp3 hn1 hn2 up3=>by
    refine ⟨⟨P3.pm,P3.kd,P3.fl,P3.oks,P3.nd,P3.pre⟩,?_⟩
    have hpd:pendingOf (setPending st3 ((pendingOf st3).push (0,n,0))) = #[(0,n,0)]:=by
     show (pendingOf st3).push (0,n,0)=_
     rw [hp3];rfl
    by_cases e:n=a0.size
    ·subst e
     exact .inr (.inr ⟨by omega,by rw [Nat.zero_add],.inl ⟨0,hpd,up3⟩⟩)
    ·exact .inr (.inl ⟨n,rfl,by rw [Nat.zero_add],hn1,by omega,hpd,up3⟩)
   refine wpS_bind (Nq hL (by omega) (by omega) P1 (fun m st2 P2 pd2 hm1 hm2 ZF=>?_))
   dsimp only
   by_cases e:m<M
   ·rw [if_pos e]
    refine wpS_bind (wpS_lift (wpAny_rule ⟨rfl,?_⟩))
    refine wpS_bind (X6 hL (by omega) (by omega) P2 ZF (fun st3 P3 pd3 up3=>?_))
    rw [if_neg (by decide)]
    have hp3:pendingOf st3 = #[]:=(pd3.trans pd2).trans hp1
    refine wpS_bind (wpS_get ?_)
    rw [show (pendingOf st3).back? = none by rw [hp3];rfl]
    dsimp only
    exact wpS_bind (wpS_modify (wpS_pure (vq _ st3 P3 hp3 (by omega) (by omega) up3)))
   ·rw [if_neg e]
    have hp3:pendingOf st2 = #[]:=pd2.trans hp1
    refine wpS_bind (wpS_get ?_)
    rw [show (pendingOf st2).back? = none by rw [hp3];rfl]
    dsimp only
    exact wpS_bind (wpS_modify (wpS_pure (vq _ st2 P2 hp3 (by omega) (by omega) ZF)))
  ·dsimp (config:={ zeta:=false }) only
   rw [if_neg (by omega)]
   have hz:=P1.size
   have vq:∀ (n pw:Nat) (st3:SortSt),Pl k ok (arrOf st1) n1 st3→pendingOf st3 = #[(0,n1,0)]→n=a0.size - n1→Up k (arrOf st3) n1 n→∀ ZK,ZK=setPending st3 (((pendingOf st3).modify ((pendingOf st3).size - 1) fun x=>(x.fst,x.2.fst,pw)).push (n1,n,0))→Pl k ok a0 0 ZK∧((1+1=0∧((none:Option Unit),n1+n)=(none,0)∧pendingOf ZK = #[])∨(∃ n2,1+1=1∧((none:Option Unit),n1+n)=(none,n2)∧M≤n2∧n2<a0.size∧pendingOf ZK = #[(0,n2,0)]∧Up k (arrOf ZK) 0 n2)∨(1≤1+1∧((none:Option Unit),n1+n)=(none,a0.size)∧(One k a0 ZK∨Two k a0 ZK))):=fun n pw st3 P3 hp3 hn up3 ZK h4=>by
    subst h4
    have P4:=P1.back P3
    refine ⟨⟨P4.pm,P4.kd,P4.fl,P4.oks,P4.nd,P4.pre⟩,.inr (.inr ⟨by omega,by rw [hn,show n1+(a0.size - n1)=a0.size by omega],.inr ⟨n1,n,pw,?_,by omega,by omega,by omega,up1.keep P3.pre,up3⟩⟩)⟩
    show ((pendingOf st3).modify ((pendingOf st3).size - 1) fun x=>(x.fst,x.2.fst,pw)).push (n1,n,0)=_
    rw [hp3,mod_one];rfl
   have aaE:∀ (pw:Nat) (st3:SortSt),pendingOf st3 = #[(0,n1,0)]→∀ (Q':Option Unit×Unit→SortSt→Prop),Q' (none,()) st3→wpS (model prog w) A E s (forIn [0:a0.size] ((none:Option Unit),()) fun x __s=>do
     let __do_lift ←get
     match if (pendingOf __do_lift).size > 1 then (pendingOf __do_lift)[(pendingOf __do_lift).size - 2]? else none with
     | some (fst,ae2,older)=>if older≤pw then pure (ForInStep.done (none,())) else do
      let __do_lift ←mergeAt' ((pendingOf __do_lift).size - 2)
      if (!__do_lift)=true then pure (ForInStep.done (some (),())) else pure (ForInStep.yield (none,()))
     | x=>pure (ForInStep.done (none,()))) Q' st3:=fun pw st3 hp3 Q' hQ=>by
    refine wpS_mono (wpS_forRange (I:=fun _ c st'=>st' = st3∧c=(none,())) (Q:=fun c st'=>st' = st3∧c=(none,())) ?_ (fun _ _ z=>z) ⟨rfl,rfl⟩) (fun c st' z=>by rw [z.1,z.2];exact hQ)
    rintro y c ZK _ _ ⟨rfl,rfl⟩
    refine wpS_bind (wpS_get ?_)
    rw [if_neg (by rw [hp3];show ¬ (1 > 1);omega)]
    exact wpS_pure ⟨rfl,rfl⟩
   refine wpS_bind (Nq hL (by omega) (by omega) (P1.own n1) (fun m st2 P2 pd2 hm1 hm2 ZF=>?_))
   dsimp only
   by_cases e:m<M
   ·rw [if_pos e]
    refine wpS_bind (wpS_lift (wpAny_rule ⟨rfl,?_⟩))
    refine wpS_bind (X6 hL (by omega) (by omega) P2 ZF (fun st3 P3 pd3 up3=>?_))
    rw [if_neg (by decide)]
    have hp3:pendingOf st3 = #[(0,n1,0)]:=(pd3.trans pd2).trans hp1
    refine wpS_bind (wpS_get ?_)
    rw [show (pendingOf st3).back? = some (0,n1,0) by rw [hp3];rfl]
    dsimp only
    refine wpS_bind (aaE _ st3 hp3 _ ?_)
    dsimp only
    exact wpS_bind (wpS_modify (wpS_bind (wpS_modify (wpS_pure (vq _ _ st3 P3 hp3 (by omega) up3 _ rfl)))))
   ·rw [if_neg e]
    have hp3:pendingOf st2 = #[(0,n1,0)]:=pd2.trans hp1
    refine wpS_bind (wpS_get ?_)
    rw [show (pendingOf st2).back? = some (0,n1,0) by rw [hp3];rfl]
    dsimp only
    refine wpS_bind (aaE _ st2 hp3 _ ?_)
    dsimp only
    exact wpS_bind (wpS_modify (wpS_bind (wpS_modify (wpS_pure (vq _ _ st2 P2 hp3 (by omega) ZF _ rfl)))))
  ·dsimp only
   rw [if_pos (Nat.le_refl _)]
   exact wpS_pure ⟨P1,rfl,d⟩
 ·rintro c st1 ⟨P1,⟨hx,rfl,hp1⟩ | ⟨n1,hx,rfl,g1,g2,hp1,up1⟩ | ⟨hx1,rfl,d⟩⟩
  ·omega
  ·omega
  ·exact ⟨P1,rfl,d⟩
 ·rintro c st1 ⟨P1,rfl,d⟩
  dsimp only
  refine wpS_bind (wpS_mono (wpS_forRange (I:=fun x c st'=>Pl k ok a0 0 st'∧c=(none,())∧(One k a0 st'∨(x=0∧Two k a0 st'))) (Q:=fun c st'=>Pl k ok a0 0 st'∧c=(none,())∧One k a0 st') ?_ ?_ ⟨P1,rfl,d.imp id (fun z=>⟨rfl,z⟩)⟩) ?_)
  ·rintro x c st2 _ hx ⟨P2,rfl,o | ⟨rfl,n1,n2,p,hpd,hn,hn1,hn2,u1,u2⟩⟩
   ·refine wpS_bind (wpS_get ?_)
    obtain ⟨p,hpd,up⟩:=id o
    rw [if_pos (by rw [hpd];exact Nat.le_refl 1)]
    exact wpS_pure ⟨P2,rfl,o⟩
   ·refine wpS_bind (wpS_get ?_)
    rw [hpd]
    rw [if_neg (by show ¬ (2≤1);omega)]
    refine wpS_bind (PX hL hn hn1 hn2 P2 hpd u1 u2 (fun st3 P3 pd3 u3=>?_))
    rw [if_neg (by decide)]
    rw [hn] at pd3 u3
    exact wpS_pure ⟨P3,rfl,.inl ⟨p,pd3,u3⟩⟩
  ·rintro c st2 ⟨P2,rfl,o | ⟨hx,_⟩⟩
   ·exact ⟨P2,rfl,o⟩
   ·omega
  ·rintro c st2 ⟨P2,rfl,p,_,up⟩
   exact wpS_pure (q _ P2 up)
end
end SR
namespace SR
open PySem PyProof.Rows PySem.MeetsSeq PySem.MeetsSeq3
section
variable {prog:Program} {w:World} {A:Around} {E:Value→Shared→Prop} {s:Shared}
theorem Nr {a b:Int} {t u:Tok} {Q:Value→Shared→Prop} (h:Q (.bool (decide (a<b))) s):wpAny (model prog w) A (richCompare .Lt (.int a t) (.int b u)) Q E s :=
 wpAny_richCompare_same (typeIs_int s a t) (typeIs_int s b u) slot_int_lt (call_int_lt ⟨fun z=>(nomatch z),h⟩)
theorem Hy (l b:Addr) (xs ys:Array Value) (n n2:Nat) (dd dd2:Option Addr) (sl sl2:Array (Option Value)) {x y:Int} {t u:Tok} (h1:xs[0]? = some (.int x t)) (h2:ys[0]? = some (.int y u)) (hne:x≠y) :
  Meets (Builtin.«list.__eq__.loop» ⟨[.ref l,.ref b,rawInt 0,rawInt 0],[]⟩) (fun _ R s=>s.heap.get? l=some ⟨.type "list",dd,.seq xs n,sl⟩∧s.heap.get? b=some ⟨.type "list",dd2,.seq ys n2,sl2⟩∧R (.ok (.ret (.bool (decide (x<y))))) s):=by
 intro prog w A R s h
 obtain ⟨hp0,g0,d0,tk0,os0⟩:=s
 obtain ⟨ga,gb,q⟩:=h
 wp_walk using AutoSeq1.wpAny_loadPart' ga,AutoSeq1.wpAny_loadPart' gb
 have i1:xs[(0:Int).toNat]? = some (.int x t):=h1
 have i2:ys[(0:Int).toNat]? = some (.int y u):=h2
 rw [i1,i2]
 refine wpAny_bind (wpAny_eqBool_int ?_)
 rw [show (x == y)=false by simpa using hne]
 wp_walk using AutoSeq1.wpAny_loadPart' ga,AutoSeq1.wpAny_loadPart' gb
 rw [i1,i2]
 show wpAny _ _ (richCompare .Lt (.int x t) (.int y u) >>= fun v=>ret v) _ _ _
 exact wpAny_bind (Nr (wpAny_pure q))
theorem Ks (l:Addr) (xs:Array Value) (n:Nat) (dd:Option Addr) (sl:Array (Option Value)) (hi:∀ j (h:j<xs.size),∃ v t,xs[j]=.int v t) (m:Nat):∀ i:Nat,xs.size - i=m →
  Meets (Builtin.«list.__eq__.loop» ⟨[.ref l,.ref l,rawInt i,rawInt 0],[]⟩) (fun _ R s=>s.heap.get? l=some ⟨.type "list",dd,.seq xs n,sl⟩∧R (.ok (.ret (.bool false))) s):=by
 induction m with
 | zero =>
  intro i hm prog w A R s h
  obtain ⟨hp0,g0,d0,tk0,os0⟩:=s
  obtain ⟨ga,q⟩:=h
  wp_walk using AutoSeq1.wpAny_loadPart' ga
  have i1:xs[((i:Nat):Int).toNat]? = none:=by simp;omega
  rw [i1]
  wp_walk using AutoSeq1.wpAny_loadPart' ga
  show R (.ok (.ret (.bool (decide (xs.size<xs.size))))) _
  rw [decide_eq_false (by omega)]
  exact q
 | succ m ih =>
  intro i hm prog w A R s h
  obtain ⟨hp0,g0,d0,tk0,os0⟩:=s
  obtain ⟨ga,q⟩:=h
  wp_walk using AutoSeq1.wpAny_loadPart' ga
  have hlt:i<xs.size:=by omega
  obtain ⟨v,t,e⟩:=hi i hlt
  have i1:xs[((i:Nat):Int).toNat]? = some (.int v t):=by rw [Int.toNat_natCast,Array.getElem?_eq_getElem hlt,e]
  rw [i1]
  refine wpAny_bind (wpAny_eqBool_int ?_)
  rw [show (v == v)=true by simp]
  wp_walk
  rw [show ((i:Int)+1)=((i+1:Nat):Int) from rfl]
  refine ⟨plainId_quiet plain_eq_loop _,codeAny_builtin entry_eq_loop ?_⟩
  rw [Around.under_plainId plain_eq_loop _]
  exact ih (i+1) (by omega) prog w A R _ ⟨ga,q⟩
theorem aaF (l b:Addr) (xs ys:Array Value) (n n2:Nat) (dd dd2:Option Addr) (sl sl2:Array (Option Value)) (r:Bool)
  (g:Meets (Builtin.«list.__eq__.loop» ⟨[.ref l,.ref b,rawInt 0,rawInt 0],[]⟩) (fun _ R s=>s.heap.get? l=some ⟨.type "list",dd,.seq xs n,sl⟩∧s.heap.get? b=some ⟨.type "list",dd2,.seq ys n2,sl2⟩∧R (.ok (.ret (.bool r))) s)) :
  Meets (Builtin.«list.__lt__» ⟨[.ref l,.ref b],[]⟩) (fun _ R s=>s.heap.get? l=some ⟨.type "list",dd,.seq xs n,sl⟩∧s.heap.get? b=some ⟨.type "list",dd2,.seq ys n2,sl2⟩∧R (.ok (.ret (.bool r))) s):=by
 intro prog w A R s h
 obtain ⟨hp0,g0,d0,tk0,os0⟩:=s
 obtain ⟨ga,gb,q⟩:=h
 have sub:=AutoSeq1.sub_list_list
 wp_walk using AutoSeq1.wpAny_loadPart' ga,AutoSeq1.wpAny_loadPart' gb
 refine ⟨plainId_quiet plain_eq_loop _,codeAny_builtin entry_eq_loop ?_⟩
 rw [Around.under_plainId plain_eq_loop _]
 exact g prog w A R _ ⟨ga,gb,q⟩
def IL (h:Heap) (v:Value) (x:Int):Prop:=∃ l xs n dd sl t,v=.ref l∧h.get? l=some ⟨.type "list",dd,.seq xs n,sl⟩∧xs[0]? = some (.int x t)∧∀ j (hj:j<xs.size),∃ z t,xs[j]=.int z t
theorem Nt {v u:Value} {x y:Int} (hu:A.units<cLine) (hv:IL s.heap v x) (hw:IL s.heap u y) (hs:x=y→v=u) {Q:Bool→Shared→Prop} (q:Q (decide (x<y)) s):wpAny (model prog w) A (oneLt' true v u) Q E s:=by
 obtain ⟨l,xs,n,dd,sl,t,rfl,g1,g2,g3⟩:=hv
 obtain ⟨b,ys,n2,dd2,sl2,t2,rfl,f1,f2,f3⟩:=hw
 rw [oneLt'_eq]
 simp only [if_true]
 refine wpAny_bind (wpAny_cRoomFor hu ?_)
 have hT:s.TypeIs (.ref l) "list":=⟨_,g1,rfl⟩
 have go:∀ r,Meets (Builtin.«list.__lt__» ⟨[.ref l,.ref b],[]⟩) (fun _ R s=>s.heap.get? l=some ⟨.type "list",dd,.seq xs n,sl⟩∧s.heap.get? b=some ⟨.type "list",dd2,.seq ys n2,sl2⟩∧R (.ok (.ret (.bool r))) s)→r=decide (x<y)→wpAny (model prog w) A (do
   match ←callSpecialIfBound? (.ref l) "__lt__" [.ref b] with
   | some .notImplemented | none=>rule "list.sort.lt-declined"
   | some r=>return ←truthOfDropped r
   truthOfDropped (←richCompare .Lt (.ref l) (.ref b))) Q E s:=fun r m e=>by
  refine wpAny_bind (wpAny_callSpecialIfBound?_slot hT PySem.F.slot_list_lt (call_meets PySem.F.slot_list_lt hT PySem.F.entry_list_lt (PySem.F.args_list_lt_2 _ _) m ⟨g1,f1,?_⟩))
  exact wpAny_truthy_bool (by rw [e];exact q)
 by_cases e:x=y
 ·have:=hs e
  cases this
  rw [g1] at f1
  cases f1
  refine go false (aaF _ _ _ _ _ _ _ _ _ _ false (fun prog w A R s h=>Ks l xs n dd sl g3 _ 0 rfl prog w A R s ⟨h.1,h.2.2⟩)) ?_
  rw [decide_eq_false (by omega)]
 ·exact go _ (aaF _ _ _ _ _ _ _ _ _ _ _ (Hy l b xs ys n n2 dd dd2 sl sl2 g2 f2 e)) rfl
theorem Uy {k:Keyed→Int} {ok:Keyed→Prop} (hu:A.units<cLine) (hk:∀ x,ok x→IL s.heap x.1 (k x)) (hs:∀ x y,ok x→ok y→k x=k y→x.1=y.1):Bh prog w A E s k ok:=by
 intro x y st Q ox oy kd q
 rw [lt'_eq]
 refine wpS_bind (wpS_get ?_)
 rw [kd,keyLt'_oneType]
 refine wpS_bind (wpS_lift (wpAny_attempt (Nt hu (hk x ox) (hk y oy) (hs x y ox oy) ?_)))
 exact ⟨rfl,wpS_pure q⟩
end
end SR
namespace SR
open PySem PyProof.Rows
theorem IL.move {h h':Heap} {v:Value} {x:Int} (hv:IL h v x) (hk:∀ b o,v=.ref b→h.get? b=some o→h'.get? b=some o):IL h' v x:=by
 obtain ⟨l,xs,n,dd,sl,t,e,g1,g2,g3⟩:=hv
 exact ⟨l,xs,n,dd,sl,t,e,hk l _ e g1,g2,g3⟩
theorem IL.looks {M:Model} {h:Heap} {v:Value} {x:Int} (hv:IL h v x):PySem.W.Looks M h (typeOf v) (.type "list"):=by
 obtain ⟨l,xs,n,dd,sl,t,rfl,g1,g2,g3⟩:=hv
 exact (PySem.W.Looks.ld g1).andThen .now
theorem gY (vs:List Value):(pairsOf vs).toList=vs.map fun v=>(v,v):=by
 rw [pairsOf_toList]
 induction vs with
 | nil=>rfl
 | cons v r ih=>rw [List.zip_cons_cons,List.map_cons,ih]
section
variable {prog:Program} {w:World} {A:Around} {E:Value→Shared→Prop} {s:Shared} {vs:List Value} {k0:Value→Int}
theorem Tq {b:Array Keyed} (hp:b.Perm (pairsOf vs)) (hs:jw (fun x=>k0 x.1) b.toList):((b.map (·.2)).toList).Perm vs∧(b.map (·.2)).toList.Pairwise (fun u v=>k0 u<k0 v):=by
 have h1:b.toList.Perm (vs.map fun v=>(v,v)):=by rw [←gY];exact hp.toList
 have h2:∀ x∈b.toList,x.1=x.2:=fun x hx=>by
  obtain ⟨v,_,rfl⟩:=List.mem_map.mp (h1.mem_iff.mp hx)
  rfl
 constructor
 ·have:=h1.map (·.2)
  rw [List.map_map] at this
  rw [Array.toList_map]
  exact this.trans (List.Perm.of_eq (List.map_id _))
 ·rw [Array.toList_map,List.pairwise_map]
  exact List.Pairwise.imp_of_mem (fun {x y} hx hy h=>by rw [←h2 x hx,←h2 y hy];exact h) hs
theorem P0 {a:Addr} {n:Nat} {P:PySem.Fin→Shared→Prop} (hu:A.units<cLine) (ho:s.heap.get? a=some (seqObj "list" vs.toArray n)) (hv:∀ v∈vs,IL s.heap v (k0 v)) (hna:∀ v∈vs,v≠.ref a) (nd:(vs.map k0).Nodup) (hz:vs.length<128)
  (q:∀ out:List Value,out.Perm vs→out.Pairwise (fun u v=>k0 u<k0 v)→P (.done (.ret .none)) { s with heap:=sortedHeap s.heap a vs out.toArray }):wpAny (model prog w) A (Builtin.«list.sort» ⟨[.ref a],[]⟩) P E s:=by
 have hlt:a<s.heap.objs.size:=Heap.lt_size ho
 obtain ⟨e1,c1⟩:∃ e1,(s.heap.update a (Obj.mapSeq fun _=>(#[]:Array Value))).get? a=some (seqObj "list" #[] e1):=⟨_,get?_update_seq ho fun _=>#[]⟩
 have c2:(((s.heap.update a (Obj.mapSeq fun _=>(#[]:Array Value))).push (seqObj "tuple" vs.toArray 0)).push (seqObj "list" #[] 0)).get? a=some (seqObj "list" #[] e1):=Heap.get?_push_of_some _ (Heap.get?_push_of_some _ c1)
 have keep:∀ b o,b≠a→s.heap.get? b=some o→(((s.heap.update a (Obj.mapSeq fun _=>(#[]:Array Value))).push (seqObj "tuple" vs.toArray 0)).push (seqObj "list" #[] 0)).get? b=some o:=fun b o hb e =>
  Heap.get?_push_of_some _ (Heap.get?_push_of_some _ (by rw [Heap.get?_update_ne _ _ _ _ hb];exact e))
 have hv2:∀ v∈vs,IL (((s.heap.update a (Obj.mapSeq fun _=>(#[]:Array Value))).push (seqObj "tuple" vs.toArray 0)).push (seqObj "list" #[] 0)) v (k0 v):=fun v hm=>(hv v hm).move fun b o e g=>keep b o (fun z=>hna v hm (by rw [e,z])) g
 have small:vs.length≤sizeLine:=by rw [sizeLine_eq];omega
 have hza:vs.toArray.size=vs.length:=List.size_toArray
 have vq:∀ (st':SortSt),(arrOf st').Perm (pairsOf vs)→jw (fun x=>k0 x.1) (arrOf st').toList→P (.done (.ret .none)) { s with heap:=sortedHeap s.heap a vs ((arrOf st').map (·.2)) }:=fun st' h1 h2=>by
  obtain ⟨g1,g2⟩:=Tq h1 h2
  have:=q _ g1 g2
  rw [Array.toArray_toList] at this
  exact this
 rw [list_sort_plain]
 refine wpAny_bind (listItems_at ho rfl (wpAny_bind (listUpdate_at ho rfl (wpAny_bind (seqEpoch_at c1 rfl (wpAny_bind (wpAny_newTuple (wpAny_bind (wpAny_newList (wpAny_holding ?_) (Nat.zero_le _))) (by show vs.length≤_;rw [sizeLine_eq];omega))))) (by rw [hza];exact small) (Nat.zero_le _))))
 show wpAny (model prog w) A _ P E (Shared.mk (((s.heap.update a (Obj.mapSeq fun _=>(#[]:Array Value))).push (seqObj "tuple" vs.toArray 0)).push (seqObj "list" #[] 0)) s.gens s.drawn s.toks s.os)
 dsimp only
 by_cases h2:vs.toArray.size<2
 ·rw [if_pos h2,if_pos h2]
  refine wpAny_bind (wpAny_pure ?_)
  rw [StateT.run_pure]
  refine wpAny_bind (wpAny_pure ?_)
  dsimp only
  refine wpAny_bind (seqEpoch_at c2 rfl (wpAny_bind (listUpdate_at c2 rfl ?_ (Nat.zero_le _) (by rw [Array.size_map];show (pairsOf vs).size≤_;rw [pairsOf_size,sizeLine_eq];omega))))
  rw [if_neg (by simp)]
  refine wpAny_pure (vq (SortSt.mk' general' (vs.toArray.zip vs.toArray) #[] 7 none) (Array.Perm.refl _) ?_)
  show jw _ (pairsOf vs).toList
  rw [gY]
  have h3:vs.length<2:=by rw [←hza];exact h2
  match vs,h3 with
  | [],_=>exact List.Pairwise.nil
  | [v],_=>exact List.pairwise_singleton _ _
 ·rw [if_neg h2,if_neg h2]
  refine wpAny_bind (PySem.W.kas_kind (T:=.type "list") (by omega) (fun v hm=>(hv2 v hm).looks) (by decide) (by decide) ?_)
  have kp:(pairsOf vs).toList.map (fun x=>k0 x.1)=vs.map k0:=by rw [gY,List.map_map];rfl
  have Yb:∀ x∈(pairsOf vs).toList,x.1∈vs:=fun x hx=>by
   rw [gY] at hx
   obtain ⟨v,hm,rfl⟩:=List.mem_map.mp hx
   exact hm
  have aed:∀ u∈vs,∀ v∈vs,k0 u=k0 v→u=v:=fun u hm v hm2 e=>by
   obtain ⟨i,hi⟩:=List.mem_iff_getElem?.mp hm
   obtain ⟨j,hj⟩:=List.mem_iff_getElem?.mp hm2
   have l1:(vs.map k0)[i]? = some (k0 u):=by rw [List.getElem?_map,hi];rfl
   have l2:(vs.map k0)[j]? = some (k0 u):=by rw [List.getElem?_map,hj,e];rfl
   have e3:=(List.getElem?_inj (List.getElem?_eq_some_iff.mp l1).1 nd).mp (l1.trans l2.symm)
   rw [e3,hj] at hi
   exact (Option.some.inj hi).symm
  have hL:Bh prog w A E (Shared.mk (((s.heap.update a (Obj.mapSeq fun _=>(#[]:Array Value))).push (seqObj "tuple" vs.toArray 0)).push (seqObj "list" #[] 0)) s.gens s.drawn s.toks s.os) (fun x=>k0 x.1) (fun x=>x∈(pairsOf vs).toList) :=
   Uy hu (fun x hx=>hv2 x.1 (Yb x hx)) (fun x y hx hy e=>aed x.1 (Yb x hx) y.1 (Yb y hy) e)
  have run:=Tp (a0:=pairsOf vs) (st:=SortSt.mk' oneType' (vs.toArray.zip vs.toArray) #[] 7 none) (Q:=fun _ st'=>(arrOf st').Perm (pairsOf vs)∧failedOf st' = none∧jw (fun x=>k0 x.1) (arrOf st').toList) hL (by rw [pairsOf_size];omega) (by rw [pairsOf_size];exact hz) ⟨Array.Perm.refl _,rfl,rfl,fun x hx=>hx,by rw [kp];exact nd,fun _ _=>rfl⟩ rfl (fun st' P' up=>⟨P'.pm,P'.fl,by
    have:=Kr (lo:=0) up (by rw [P'.size];omega)
    rw [List.drop_zero,List.take_of_length_le (by rw [Array.length_toList,P'.size];exact Nat.le_refl _)] at this
    exact this⟩)
  refine wpAny_bind (wpAny_mono run ?_ fun _ _ e=>e)
  rintro ⟨⟨⟩,st'⟩ s' ⟨rfl,g1,g2,g3⟩
  dsimp only
  refine wpAny_bind (seqEpoch_at c2 rfl (wpAny_bind (listUpdate_at c2 rfl ?_ (Nat.zero_le _) (by rw [Array.size_map,g1.size_eq,pairsOf_size,sizeLine_eq];omega))))
  rw [g2]
  dsimp only
  rw [if_neg (by simp)]
  exact wpAny_pure (vq st' g1 g3)
theorem Ku {l:Addr} {Q:Value→Shared→Prop} (hu:A.units+2<cLine) (hl:s.heap.IsList l vs.toArray) (hv:∀ v∈vs,IL s.heap v (k0 v)) (nd:(vs.map k0).Nodup) (hz:vs.length<128)
  (q:∀ out:List Value,out.Perm vs→out.Pairwise (fun u v=>k0 u<k0 v)→Q (.ref (s.heap.objs.size+1)) { s with heap:=sortedAll s.heap vs out.toArray }):wpAny (model prog w) A (call (.builtin "sorted") [.ref l]) Q E s:=by
 refine Calls.call_function_entry kind_sorted plain_sorted entry_sorted (args_sorted1 _) ?_
 unfold Builtin.«sorted»
 have small:vs.length≤sizeLine:=by rw [sizeLine_eq];omega
 refine wpAny_bind (m:=checkCount "sorted" 1 1 _) (wpAny_pure (wpAny_bind (collect_list hl (wpAny_bind (wpAny_newList ?_ (by rw [sizeLine_eq];omega))) (by rw [sizeLine_eq];omega))))
 have zs:((s.heap.push (seqObj "list" #[] 0)).update s.heap.objs.size (Obj.mapSeq (· ++ vs.toArray))).objs.size=s.heap.objs.size+1:=by rw [Heap.size_update,size_push']
 have g:(((s.heap.push (seqObj "list" #[] 0)).update s.heap.objs.size (Obj.mapSeq (· ++ vs.toArray))).push (seqObj "list" vs.toArray 0)).get? (s.heap.objs.size+1)=some (seqObj "list" vs.toArray 0):=by rw [←zs];exact Heap.get?_push_size _ rfl
 have keep:∀ b o,s.heap.get? b=some o→(((s.heap.push (seqObj "list" #[] 0)).update s.heap.objs.size (Obj.mapSeq (· ++ vs.toArray))).push (seqObj "list" vs.toArray 0)).get? b=some o:=fun b o e=>by
  have hb:b≠s.heap.objs.size:=Nat.ne_of_lt (Heap.lt_size e)
  exact Heap.get?_push_of_some _ (by rw [Heap.get?_update_ne _ _ _ _ hb];exact Heap.get?_push_of_some _ e)
 have far:∀ v∈vs,v≠.ref (s.heap.objs.size+1):=fun v hm z=>by
  obtain ⟨b,xs,n,dd,sl,t,e,g1,_⟩:=hv v hm
  rw [e] at z
  cases z
  exact Nat.lt_irrefl _ (Nat.lt_of_succ_lt (Heap.lt_size g1))
 show wpAny _ _ _ _ _ (Shared.mk (((s.heap.push (seqObj "list" #[] 0)).update s.heap.objs.size (Obj.mapSeq (· ++ vs.toArray))).push (seqObj "list" vs.toArray 0)) s.gens s.drawn s.toks s.os)
 rw [zs]
 refine wpAny_bind (wpAny_holding (wpAny_call_entry slot_list_sort ⟨_,g,rfl⟩ entry_list_sort (P0 (k0:=k0) (by show A.units+1+1<cLine;omega) g (fun v hm=>(hv v hm).move fun b o _ e=>keep b o e) far nd hz fun out h1 h2=>⟨_,rfl,wpAny_pure ⟨_,rfl,q out h1 h2⟩⟩) (args_list_sort _)))
end
end SR
namespace L2
open PySem PySem.Spec PyProof.Rows
def ZL:V→Int
 | .int i=>i
 | _=>0
def uq (H:Hp):Value→Addr×List Int
 | .ref b=>(b,match H b with
  | some (.lst xs)=>xs.map ZL
  | _=>[])
 | _=>(0,[])
def Yc:List V→Hp→VK→Prop:=fun xs H Q=>∃ (a:Addr) (ls:List (Addr×List Int)),xs=[.ref a]∧H a=some (.lst (ls.map fun p=>V.ref p.1))∧(∀ p∈ls,p.2≠[]∧H p.1=some (.lst (p.2.map V.int)))∧(ls.map fun p=>p.2.headD 0).Nodup∧ls.length<128 ∧
 ∀ (out:List (Addr×List Int)) (l:Addr),out.Perm ls→out.Pairwise (fun p q=>p.2.headD 0<q.2.headD 0)→H l=none→Q (.ref l) (upd H l (.lst (out.map fun p=>V.ref p.1)))
theorem ZM (xs:List Int):(xs.map V.int).map ZL=xs:=by
 rw [List.map_map]
 exact List.map_id _
theorem JF {α:Type} (f:α→Addr):∀ {ls:List α} {us:List Value},Vals (ls.map fun p=>V.ref (f p)) us→us=ls.map fun p=>Value.ref (f p)
 | [],us,h=>by cases h;rfl
 | p::r,us,h=>by
  cases h with
  | cons h1 h2 =>
   rw [List.map_cons,JF f h2]
   congr 1
theorem JG {α:Type} (f:α→Addr):∀ (ls:List α),Vals (ls.map fun p=>V.ref (f p)) (ls.map fun p=>Value.ref (f p))
 | []=>.nil
 | p::r=>.cons rfl (JG f r)
theorem Nu:∀ {xs:List Int} {us:List Value},Vals (xs.map V.int) us→us.length=xs.length∧∀ (j:Nat) (x:Int),xs[j]? = some x→∃ t,us[j]? = some (.int x t)
 | [],us,h=>by cases h;exact ⟨rfl,fun j x e=>by simp at e⟩
 | x::r,us,h=>by
  cases h with
  | @cons _ _ u us' h1 h2 =>
   obtain ⟨t,rfl⟩:=h1
   obtain ⟨g1,g2⟩:=Nu h2
   refine ⟨by rw [List.length_cons,List.length_cons,g1],fun j y e=>?_⟩
   cases j with
   | zero=>exact ⟨t,by simp at e;rw [e];rfl⟩
   | succ j=>exact g2 j y (by simpa using e)
theorem Yd {A:Around} {k:Nat} (hr:Room k A):A.units+2<cLine:=by have:=hr.un;omega
section
variable {X:Cx}
theorem Qa (hu:X.A.units+2<cLine):CallR X (.builtin "sorted") Yc:=by
 intro pins s σ H xs us Q I r h
 obtain ⟨a,ls,rfl,ha,hls,nd,hz,q⟩:=h
 obtain ⟨u,rfl,rx⟩:=vals1 r
 cases rx
 obtain ⟨_,its,n,rv,hget⟩:=(show ObjOk X.prog X.w H s.heap a (.lst (ls.map fun p=>V.ref p.1)) from I.hok a _ ha)
 have e:=JF (fun p:Addr×List Int=>p.1) rv
 subst e
 have un:∀ p∈ls,uq H (.ref p.1)=p:=fun p hp=>by
  show (p.1,(match H p.1 with
   | some (.lst xs)=>xs.map ZL
   | _=>[]))=p
  rw [(hls p hp).2]
  show (p.1,(p.2.map V.int).map ZL)=p
  rw [ZM]
 have il:∀ p∈ls,SR.IL s.heap (.ref p.1) ((uq H (.ref p.1)).2.headD 0):=fun p hp=>by
  rw [un p hp]
  obtain ⟨ne,hH⟩:=hls p hp
  obtain ⟨_,us,c,rv2,g⟩:=(show ObjOk X.prog X.w H s.heap p.1 (.lst (p.2.map V.int)) from I.hok p.1 _ hH)
  obtain ⟨g1,g2⟩:=Nu rv2
  cases hp2:p.2 with
  | nil=>exact absurd hp2 ne
  | cons x r2 =>
   obtain ⟨t,ht⟩:=g2 0 x (by rw [hp2];rfl)
   refine ⟨p.1,us.toArray,c,none,#[],t,rfl,g,by simpa using ht,fun j hj=>?_⟩
   have hj':j<p.2.length:=by rw [←g1];simpa using hj
   obtain ⟨t2,h2⟩:=g2 j p.2[j] (by simp [hj'])
   refine ⟨p.2[j],t2,?_⟩
   rw [←Option.some_inj,←h2]
   simp
 have nd2:((ls.map fun p=>Value.ref p.1).map fun v=>(uq H v).2.headD 0).Nodup:=by
  rw [List.map_map]
  have e2:ls.map ((fun v=>(uq H v).2.headD 0) ∘ fun p=>Value.ref p.1)=ls.map fun p=>p.2.headD 0:=List.map_congr_left fun p hp=>by
   show (uq H (.ref p.1)).2.headD 0=_
   rw [un p hp]
  rw [e2];exact nd
 refine SR.Ku (k0:=fun v=>(uq H v).2.headD 0) hu ⟨_,hget,rfl,n,rfl⟩ (fun v hv=>?_) nd2 (by rw [List.length_map];exact hz) (fun out h1 h2=>?_)
 ·obtain ⟨p,hp,rfl⟩:=List.mem_map.mp hv
  exact il p hp
 ·have mem:∀ v∈out,∃ p∈ls,v=.ref p.1:=fun v hv=>by
   obtain ⟨p,hp,e⟩:=List.mem_map.mp (h1.mem_iff.mp hv)
   exact ⟨p,hp,e.symm⟩
  have o1:(out.map (uq H)).Perm ls:=by
   refine (h1.map (uq H)).trans (List.Perm.of_eq ?_)
   rw [List.map_map]
   exact (List.map_congr_left fun p hp=>un p hp).trans (List.map_id _)
  have o2:(out.map (uq H)).Pairwise (fun p q=>p.2.headD 0<q.2.headD 0):=List.pairwise_map.mpr h2
  have o3:out=(out.map (uq H)).map fun p=>Value.ref p.1:=by
   rw [List.map_map]
   refine ((List.map_congr_left fun v hv=>?_).trans (List.map_id _)).symm
   obtain ⟨p,hp,rfl⟩:=mem v hv
   show Value.ref (uq H (.ref p.1)).1=_
   rw [un p hp];rfl
  have zs:((s.heap.push (seqObj "list" #[] 0)).update s.heap.objs.size (Obj.mapSeq (· ++ (ls.map fun p=>Value.ref p.1).toArray))).objs.size=s.heap.objs.size+1:=by rw [Heap.size_update,size_push']
  have g0:(((s.heap.push (seqObj "list" #[] 0)).update s.heap.objs.size (Obj.mapSeq (· ++ (ls.map fun p=>Value.ref p.1).toArray))).push (seqObj "list" (ls.map fun p=>Value.ref p.1).toArray 0)).get? (s.heap.objs.size+1)=some (seqObj "list" (ls.map fun p=>Value.ref p.1).toArray 0):=by rw [←zs];exact Heap.get?_push_size _ rfl
  have keep:∀ b o,s.heap.get? b=some o→(sortedAll s.heap (ls.map fun p=>Value.ref p.1) out.toArray).get? b=some o:=fun b o e=>by
   have hb:b≠s.heap.objs.size:=Nat.ne_of_lt (Heap.lt_size e)
   have hb1:b≠s.heap.objs.size+1:=Nat.ne_of_lt (Nat.lt_succ_of_lt (Heap.lt_size e))
   unfold sortedAll sortedHeap
   rw [Heap.get?_update_ne _ _ _ _ hb1]
   refine Heap.get?_push_of_some _ (Heap.get?_push_of_some _ ?_)
   rw [Heap.get?_update_ne _ _ _ _ hb1]
   refine Heap.get?_push_of_some _ ?_
   rw [Heap.get?_update_ne _ _ _ _ hb]
   exact Heap.get?_push_of_some _ e
  obtain ⟨c,hc⟩:∃ c,(sortedAll s.heap (ls.map fun p=>Value.ref p.1) out.toArray).get? (s.heap.objs.size+1)=some (seqObj "list" out.toArray c):=by
   unfold sortedAll sortedHeap
   refine ⟨_,get?_update_seq (Heap.get?_push_of_some _ (Heap.get?_push_of_some _ (get?_update_seq g0 fun _=>#[]))) fun _=>out.toArray⟩
  have fr:H (s.heap.objs.size+1)=none:=I.hok.fresh (Nat.le_succ _)
  refine ⟨.ref (s.heap.objs.size+1),_,I.laid (t':=s.toks) keep (Nat.le_succ _) (show ObjOk X.prog X.w _ _ _ (.lst _) from ⟨?_,out,c,?_,hc⟩),rfl,q _ _ o1 o2 fr⟩
  ·rw [List.length_map,o1.length_eq,sizeLine_eq];omega
  ·have:=JG (fun p:Addr×List Int=>p.1) (out.map (uq H))
   rw [←o3] at this
   exact this
theorem JH (a:Addr) (H:Hp) (Q:VK):Yc [.ref a] H Q=∃ ls:List (Addr×List Int),H a=some (.lst (ls.map fun p=>V.ref p.1))∧(∀ p∈ls,p.2≠[]∧H p.1=some (.lst (p.2.map V.int)))∧(ls.map fun p=>p.2.headD 0).Nodup∧ls.length<128 ∧
  ∀ (out:List (Addr×List Int)) (l:Addr),out.Perm ls→out.Pairwise (fun p q=>p.2.headD 0<q.2.headD 0)→H l=none→Q (.ref l) (upd H l (.lst (out.map fun p=>V.ref p.1))):=by
 refine propext ⟨fun ⟨_,ls,e,h⟩=>?_,fun ⟨ls,h⟩=>⟨a,ls,rfl,h⟩⟩
 cases e;exact ⟨ls,h⟩
end
end L2
namespace L2
open PySem PySem.Spec PyProof.Rows
section
variable {X:Cx}
end
end L2
namespace SD
open PySem PyProof.Rows
def Kv (xs:Array Nat):Prop:=∀ (i j x y:Nat),i<j→xs[i]? = some x→xs[j]? = some y→x<y
theorem Gd {xs:Array Nat} {j:Nat} (R:Kv xs):∀ (fuel lo hi:Nat),hi - lo≤fuel→lo≤hi→hi≤xs.size→(∀ i x,i<lo→xs[i]? = some x→x<j)→(∀ i x,hi≤i→xs[i]? = some x→j≤x) →
  SetTable.below.go xs j fuel lo hi≤xs.size∧(∀ i x,i<SetTable.below.go xs j fuel lo hi→xs[i]? = some x→x<j)∧∀ i x,SetTable.below.go xs j fuel lo hi≤i→xs[i]? = some x→j≤x
 | 0,lo,hi,hf,hl,hh,h1,h2=>by
  have:lo=hi:=by omega
  subst this
  exact ⟨hh,h1,h2⟩
 | fuel+1,lo,hi,hf,hl,hh,h1,h2=>by
  unfold SetTable.below.go
  by_cases e:lo<hi
  ·rw [if_pos e]
   dsimp only
   have hm:(lo+hi) / 2<xs.size:=by omega
   have hx:xs[(lo+hi) / 2]? = some (xs[(lo+hi) / 2]'hm):=Array.getElem?_eq_getElem hm
   have hg:xs.getD ((lo+hi) / 2) j=xs[(lo+hi) / 2]'hm:=by rw [Array.getD_eq_getD_getElem?,hx];rfl
   rw [hg]
   by_cases e2:xs[(lo+hi) / 2]'hm<j
   ·rw [if_pos e2]
    refine Gd R fuel _ hi (by omega) (by omega) hh (fun i x hi' q=>?_) h2
    by_cases e3:i=(lo+hi) / 2
    ·subst e3;rw [hx] at q;cases q;exact e2
    ·have:=R i _ x _ (by omega) q hx;omega
   ·rw [if_neg e2]
    refine Gd R fuel lo _ (by omega) (by omega) (by omega) h1 (fun i x hi' q=>?_)
    by_cases e3:i=(lo+hi) / 2
    ·subst e3;rw [hx] at q;cases q;omega
    ·have:=R _ i _ x (by omega) hx q;omega
  ·rw [if_neg e]
   have:lo=hi:=by omega
   subst this
   exact ⟨hh,h1,h2⟩
theorem Nv {xs:Array Nat} (R:Kv xs) (j:Nat):SetTable.below xs j≤xs.size∧(∀ i x,i<SetTable.below xs j→xs[i]? = some x→x<j)∧∀ i x,SetTable.below xs j≤i→xs[i]? = some x→j≤x :=
 Gd R xs.size 0 xs.size (by omega) (Nat.zero_le _) (Nat.le_refl _) (fun i x h=>by omega) (fun i x h q=>by rw [Array.getElem?_eq_none h] at q;cases q)
theorem Bl {l:List Nat}:Kv l.toArray ↔ l.Pairwise (· < ·):=by
 rw [List.pairwise_iff_getElem]
 constructor
 ·intro h i j hi hj hij
  exact h i j _ _ hij (by simp [hi]) (by simp [hj])
 ·intro h i j x y hij hx hy
  have hi:i<l.length:=by have:=(Array.getElem?_eq_some_iff.mp hx).1;simpa using this
  have hj:j<l.length:=by have:=(Array.getElem?_eq_some_iff.mp hy).1;simpa using this
  have a1:l[i]=x:=by simpa [hi] using hx
  have a2:l[j]=y:=by simpa [hj] using hy
  have:=h i j hi hj hij
  rw [a1,a2] at this;exact this
theorem Nx {xs:Array Nat} (R:Kv xs) {j:Nat} (hn:xs[SetTable.below xs j]? ≠ some j):Kv (SetTable.insertAt xs (SetTable.below xs j) j):=by
 obtain ⟨h0,h1,h2⟩:=Nv R j
 have h3:∀ i x,SetTable.below xs j≤i→xs[i]? = some x→j<x:=fun i x hi q=>by
  have:=h2 i x hi q
  by_cases e:x=j
  ·subst e
   by_cases e2:i=SetTable.below xs x
   ·subst e2;exact absurd q hn
   ·have hp:SetTable.below xs x<xs.size:=by have:=(Array.getElem?_eq_some_iff.mp q).1;omega
    have hx:=Array.getElem?_eq_getElem hp
    have:=R _ i _ x (by omega) hx q
    have:=h2 _ _ (Nat.le_refl _) hx
    omega
  ·omega
 have e:SetTable.insertAt xs (SetTable.below xs j) j=(xs.toList.take (SetTable.below xs j)++j::xs.toList.drop (SetTable.below xs j)).toArray:=by
  apply Array.toList_inj.mp
  rw [SetTable.toList_insertAt]
 rw [e,Bl]
 have R':xs.toList.Pairwise (· < ·):=Bl.mp (by simpa using R)
 refine List.pairwise_append.mpr ⟨R'.sublist (List.take_sublist _ _),List.pairwise_cons.mpr ⟨fun x hx=>?_,R'.sublist (List.drop_sublist _ _)⟩,fun x hx y hy=>?_⟩
 ·obtain ⟨i,hi,q⟩:=List.mem_drop_iff_getElem.mp hx
  exact h3 (SetTable.below xs j+i) x (by omega) (by rw [←Array.getElem?_toList,List.getElem?_eq_getElem (show SetTable.below xs j+i<xs.toList.length by omega),q])
 ·obtain ⟨i,hi,q⟩:=List.mem_take_iff_getElem.mp hx
  have hx':=h1 i x (by omega) (by rw [←Array.getElem?_toList,List.getElem?_eq_getElem (show i<xs.toList.length by omega),q])
  rcases List.mem_cons.mp hy with z | z
  ·omega
  ·obtain ⟨i2,hi2,q2⟩:=List.mem_drop_iff_getElem.mp z
   have:=h3 (SetTable.below xs j+i2) y (by omega) (by rw [←Array.getElem?_toList,List.getElem?_eq_getElem (show SetTable.below xs j+i2<xs.toList.length by omega),q2])
   omega
structure TI (b:Bool) (t:SetTable):Prop where
 rise:Kv t.place
 nod:t.dummies = #[]
 led:t.led=b
theorem TI.standIn {b:Bool} {t:SetTable} (h:t.led=b) (n:Nat):TI b (t.standIn n):=⟨by
 show Kv (Array.range n)
 intro i j x y hij hx hy
 rw [Array.getElem?_range] at hx hy
 split at hx <;> cases hx
 split at hy <;> cases hy
 exact hij,rfl,h⟩
theorem Ny {t:SetTable} (hn:t.dummies = #[]) (hashAt:Nat→Int) (h:Int):∀ (fuel:Nat) (p:SetTable.Probe),p.dummy=none→∀ j d,SetTable.probe.go t hashAt h fuel p=some (.empty j d)→d=none∧t.slot j=.empty
 | 0,p,hp,j,d,e=>by unfold SetTable.probe.go at e;cases e
 | fuel+1,p,hp,j,d,e=>by
  unfold SetTable.probe.go at e
  split at e
  ·rename_i q
   cases e
   exact ⟨hp,q⟩
  ·rename_i q
   unfold SetTable.slot at q
   dsimp only at q
   split at q
   ·cases q
   ·rw [hn] at q
    split at q
    ·rename_i z
     exact absurd z (by simp [SetTable.has])
    ·cases q
  ·split at e
   ·cases e
   ·refine Ny hn hashAt h fuel _ ?_ j d e
    unfold SetTable.advance
    split
    ·exact hp
    ·exact hp
theorem Qc {t:SetTable} {j:Nat} (h:t.slot j=.empty):t.place[SetTable.below t.place j]? ≠ some j:=by
 intro z
 unfold SetTable.slot at h
 dsimp only at h
 rw [z] at h
 simp at h
theorem TI.layNew {b:Bool} {t:SetTable} (I:TI b t) (es:Array (Int×Value)) (h:Int) (x:Value):TI b (layNew t es h x).2.1:=by
 unfold PySem.layNew
 split
 ·rename_i slot wd e
  dsimp only
  have hs:t.slot slot=.empty:=by
   unfold SetTable.freeSlot at e
   split at e
   ·rename_i j d q
    obtain ⟨rfl,h2⟩:=Ny I.nod _ _ _ _ rfl _ _ (show SetTable.probe.go t _ _ _ _=_ from q)
    cases e;exact h2
   ·cases e
  unfold SetTable.orStandIn
  split
  ·refine ⟨Nx I.rise (Qc hs),?_,I.led⟩
   show (if SetTable.has t.dummies slot then _ else t.dummies) = #[]
   rw [I.nod]
   simp [SetTable.has]
  ·exact TI.standIn I.led _
 ·exact TI.standIn I.led _
theorem TI.relayAll {b:Bool} {t:SetTable} (I:TI b t) (es:Array (Int×Value)) (wanted:Nat):TI b (relayAll t es wanted).2.1:=by
 unfold PySem.relayAll
 split
 ·rename_i t' order e
  dsimp only
  split
  ·unfold SetTable.relaid SetTable.laid at e
   rw [Option.bind_eq_bind,Option.bind_eq_some_iff] at e
   obtain ⟨owner,_,e⟩:=e
   cases e
   refine ⟨?_,rfl,I.led⟩
   show Kv (List.toArray _)
   rw [Bl,List.pairwise_map]
   rw [List.pairwise_filterMap]
   refine List.pairwise_lt_range.imp fun {x y} hxy a ha c hc=>?_
   rw [Option.map_eq_some_iff] at ha hc
   obtain ⟨_,_,rfl⟩:=ha
   obtain ⟨_,_,rfl⟩:=hc
   exact hxy
  ·exact TI.standIn I.led _
 ·exact TI.standIn I.led _
theorem TI.Ye {b:Bool} {t:SetTable} (I:TI b t):TI b { t with plain:=false }:=⟨I.rise,I.nod,I.led⟩
end SD
namespace SD
open PySem PyProof.Rows
section
variable {prog:Program} {w:World} {A:Around} {E:Value→Shared→Prop} {s:Shared}
abbrev iK (prog:Program) (w:World):=intKind prog w
def qR (prog:Program) (w:World) (h:Heap) (a:Addr) (S:Int→Bool) (n:Nat) (b:Bool):Prop :=
 ∃ o es ep t,h.get? a=some o∧o.ExactSet∧o.data=.set es ep t∧ElemsOf (iK prog w) es.toList∧(∀ k,S k=true ↔ ∃ e∈es.toList,(iK prog w).is k e.2=true)∧es.size<scanBound∧t.fits es.size=true∧es.size=n∧TI b t
theorem qR.at {h h':Heap} {a:Addr} {S:Int→Bool} {n:Nat} {b:Bool} (x:qR prog w h a S n b) (k:∀ o,h.get? a=some o→h'.get? a=some o):qR prog w h' a S n b:=by
 obtain ⟨o,es,ep,t,ho,r⟩:=x
 exact ⟨o,es,ep,t,k o ho,r⟩
theorem qR.congr {h:Heap} {a:Addr} {S S':Int→Bool} {n n':Nat} {b:Bool} (x:qR prog w h a S n b) (e:∀ k,S k=S' k) (en:n=n'):qR prog w h a S' n' b:=by
 have:S=S':=funext e
 subst this;subst en;exact x
theorem stored {h:Heap} {a:Addr} {o:Obj} {es eA:Array (Int×Value)} {ep:Nat} {t tA:SetTable} {S:Int→Bool} {b:Bool} (ho:h.get? a=some o) (hx:o.ExactSet) (hd:o.data=.set es ep t) (hel:ElemsOf (iK prog w) eA.toList)
  (hm:∀ k,S k=true ↔ ∃ e∈eA.toList,(iK prog w).is k e.2=true) (hz:eA.size<scanBound) (hf:tA.fits eA.size=true) (I:TI b tA) :
  (h.update a (Obj.putSet eA tA)).get? a=some { o with data:=.set eA (ep+1) tA }∧qR prog w (h.update a (Obj.putSet eA tA)) a S eA.size b:=by
 obtain ⟨g,_⟩:=SetOf_store (knd:=iK prog w) ho hx hd hel hm hz hf
 exact ⟨g,_,eA,ep+1,tA,g,hx,rfl,hel,hm,hz,hf,rfl,I⟩
theorem Tr {g:Bool→Sem Unit} (hg:∀ (b:Bool) (s₁:Shared) (Q':Unit→Shared→Prop),Q' () s₁→wpAny (model prog w) A (g b) Q' E s₁) {a:Addr} {o:Obj} {es eA:Array (Int×Value)} {ep:Nat} {t tA:SetTable} {S:Int→Bool} {b wd:Bool} {R:Option Bool→Shared→Prop}
  (ho:s.heap.get? a=some o) (hx:o.ExactSet) (hd:o.data=.set es ep t) (hel:ElemsOf (iK prog w) eA.toList) (hm:∀ k,S k=true ↔ ∃ e∈eA.toList,(iK prog w).is k e.2=true) (hz:eA.size<scanBound) (hf:tA.fits eA.size=true) (I:TI b tA)
  (q:∀ h',Heap.SameBut a s.heap h'→qR prog w h' a S eA.size b→R (some true) { s with heap:=h' }):wpAny (model prog w) A (do
   storeSet a eA tA
   if (!wd && tA.tooFull)=true then do
    g (relayAll tA eA (SetTable.grown eA.size)).2.2
    storeSet a (relayAll tA eA (SetTable.grown eA.size)).1 (relayAll tA eA (SetTable.grown eA.size)).2.1
    pure (some true)
   else pure (some true)) R E s:=by
 obtain ⟨g1,S1⟩:=stored (prog:=prog) (w:=w) ho hx hd hel hm hz hf I
 refine wpAny_bind (wpAny_storeSet_of ho hd ?_ (fits_of_scanBound hz))
 have b1:=Heap.SameBut.update s.heap a (Obj.putSet eA tA)
 split
 ·have pm:=relayAll_perm tA eA (SetTable.grown eA.size)
  have ft:=relayAll_fits tA eA (SetTable.grown eA.size)
  have IR:=I.relayAll eA (SetTable.grown eA.size)
  generalize relayAll tA eA (SetTable.grown eA.size)=r at pm ft IR
  obtain ⟨eB,tB,gv⟩:=r
  dsimp only at pm ft IR
  have hzB:eB.size=eA.size:=by rw [←Array.length_toList,pm.length_eq,Array.length_toList]
  obtain ⟨_,S2⟩:=stored (prog:=prog) (w:=w) (S:=S) g1 hx rfl (hel.perm pm) (fun k=>(hm k).trans ⟨fun ⟨e,he,z⟩=>⟨e,pm.mem_iff.mpr he,z⟩,fun ⟨e,he,z⟩=>⟨e,pm.mem_iff.mp he,z⟩⟩) (by rw [hzB];exact hz) ft IR
  rw [hzB] at S2
  exact wpAny_bind (hg _ _ _ (wpAny_bind (wpAny_storeSet_of g1 rfl (wpAny_pure (q _ (b1.trans (Heap.SameBut.update _ a _)) S2)) (fits_of_scanBound (by rw [hzB];exact hz)))))
 ·exact wpAny_pure (q _ b1 S1)
theorem abO {a:Addr} {S:Int→Bool} {n:Nat} {k:Int} {x:Value} {b:Bool} {Q:Bool→Shared→Prop} (hk:(iK prog w).is k x=true) (hc:x.scannable=true) (hS:qR prog w s.heap a S n b) (hr:n+1<scanBound)
  (q:∀ h',Heap.SameBut a s.heap h'→qR prog w h' a (fun j=>S j || decide (j=k)) (if S k then n else n+1) b→Q (!S k) { s with heap:=h' }):wpAny (model prog w) A (setAddHashed a x ((iK prog w).hash k)) Q E s:=by
 obtain ⟨o,es,ep,t,ho,hx,hd,hel,hm,hz,hf,hn,I⟩:=hS
 unfold setAddHashed setAddHashedIn
 refine wpAny_holding (wpAny_bind (wpAny_setState_of ho hd hf ?_))
 dsimp only
 rw [byScan_of hc hz hel,if_pos rfl]
 unfold setAddByScan
 refine wpAny_bind (wpAny_bind (wpAny_rule (wpAny_bind (wpAny_setScan_of hk ho hd hf hel ?_))))
 cases hfi:List.findIdx? (fun e=>(iK prog w).is k e.2) es.toList with
 | some j =>
  dsimp only
  obtain ⟨hj,hpj,_⟩:=List.findIdx?_eq_some_iff_getElem.mp hfi
  have hSk:S k=true:=(hm k).mpr ⟨es.toList[j],List.getElem_mem hj,hpj⟩
  have z:=q s.heap (Heap.SameBut.refl a s.heap) ⟨o,es,ep,t,ho,hx,hd,hel,fun j=>by
   rw [Bool.or_eq_true,decide_eq_true_eq,←hm j]
   exact ⟨fun c=>c.elim (fun y=>y) fun y=>by rw [y];exact hSk,Or.inl⟩,hz,hf,by rw [hSk];exact hn,I⟩
  rw [hSk] at z
  exact wpAny_pure (wpAny_pure z)
 | none =>
  dsimp only
  have hSk:S k=false:=by
   cases c:S k with
   | false=>rfl
   | true =>
    obtain ⟨e,he,hp⟩:=(hm k).mp c
    have:=List.findIdx?_eq_none_iff.mp hfi e he
    rw [hp] at this;cases this
  have pm:=layNew_perm t es ((iK prog w).hash k) x
  have ft:=layNew_fits t es ((iK prog w).hash k) x
  have IL:=I.layNew es ((iK prog w).hash k) x
  generalize layNew t es ((iK prog w).hash k) x=r at pm ft IL
  obtain ⟨eA,tA,wd,gv⟩:=r
  dsimp only at pm ft IL ⊢
  rw [Array.toList_push] at pm
  have hzA:eA.size=n+1:=by rw [←Array.length_toList,pm.length_eq,List.length_append,Array.length_toList,hn];rfl
  have fin:∀ h',Heap.SameBut a s.heap h'→qR prog w h' a (fun j=>S j || decide (j=k)) eA.size b→Q true { s with heap:=h' }:=fun h' b1 S1=>by
   have z:=q h' b1
   rw [hSk] at z
   rw [hzA] at S1
   exact z S1
  have gw:∀ (c:Bool) (s₁:Shared) (Q':Unit→Shared→Prop),Q' () s₁→wpAny (model prog w) A (match c with | true=>rule "set.scan.the-table-gave-way" | false=>pure ()) Q' E s₁:=fun c s₁ Q' y=>by
   cases c
   ·exact wpAny_pure y
   ·exact wpAny_rule y
  refine wpAny_bind (gw _ _ _ ?_)
  split
  ·refine wpAny_bind ?_
   rw [hashByValue_scannable 8 hc]
   refine wpAny_pure (Tr gw ho hx hd ((hel.push hk hc).perm pm) (mem_push_iff hk hm pm) (by rw [hzA];exact hr) ?_ ?_ fun h' b1 S1=>wpAny_pure (fin h' b1 S1))
   ·split
    ·exact ft
    ·exact SetTable.fits_plain_off ft
   ·split
    ·exact IL
    ·exact IL.Ye
  ·refine wpAny_bind (wpAny_pure ?_)
   exact Tr gw ho hx hd ((hel.push hk hc).perm pm) (mem_push_iff hk hm pm) (by rw [hzA];exact hr) ft IL fun h' b1 S1=>wpAny_pure (fin h' b1 S1)
end
end SD
namespace SD
open PySem PyProof.Rows
section
variable {prog:Program} {w:World} {A:Around} {E:Value→Shared→Prop} {s:Shared}
def bo (w:World):Bool:=!w.params.followText "set-order"
def fresh (b:Bool):Obj:={ cls:=.type "set",dict:=none,data:=.set #[] 0 (.fresh 0 0 b) }
theorem Yg (b:Bool) {h:Heap} {a:Addr} (e:h.get? a=some (fresh b)):qR prog w h a (fun _=>false) 0 b :=
 ⟨_,#[],0,_,e,⟨rfl,rfl,rfl⟩,rfl,fun e he=>by simp at he,fun k=>by simp,by decide,by rfl,rfl,⟨fun i j x y _ z=>by simp [SetTable.fresh] at z,rfl,rfl⟩⟩
theorem abP (v:Value) {Q₁:Value→Shared→Prop} (q:Q₁ (.ref s.heap.objs.size) { s with heap:=s.heap.push (fresh (bo w)) }) :
  codeAny (model prog w) A (.call (.builtin "set.__new__") ⟨[.type "set",v],[]⟩) (wants Q₁ E) s:=by
 refine codeAny_of_tree (show wpAny _ A.in1 (do checkBuiltinCall "set.__new__" ⟨[.type "set",v],[]⟩;again (.builtin "set.__new__" ⟨[.type "set",v],[]⟩)) _ _ s from ?_)
 refine wpAny_bind (wpAny_of_eq (F.newCall_set_1 v) (wpAny_pure ⟨plainId_quiet F.plain_set_new _,codeAny_builtin F.entry_set_new ?_⟩))
 rw [Around.under_plainId F.plain_set_new _]
 unfold Builtin.«set.__new__» Builtin.Frozenset.newClass
 have hsub:=sub_set_self
 obtain ⟨hp,g,d,tk,os⟩:=s
 dsimp only
 wp_walk
 refine wpAny_askSetting (wpAny_pure ?_)
 simp only [newObj]
 exact wpAny_bind (wpAny_alloc (wpAny_pure (wpAny_pure q)))
section
variable {R:Result→Shared→Prop} {I:Addr} {fp wr:List Addr} {G:Array GenState→Array GenState→Prop} {n:Nat} {P:Nat→Value→Prop} {St:Nat→Shared→Prop}
theorem ZP {b:Bool} (W:WalksS prog w A.in1 I fp wr G n P St) (a:Addr) (hf:a ∉ fp) (val:Nat→Int) (hv:∀ i v,P i v→∃ t,v=.int (val i) t) (hz:n+1<scanBound):∀ (k i:Nat) (s:Shared),n - i=k→i≤n→St i s →
  qR prog w s.heap a (fun j=>(firstMet val i).any (· == j)) (firstMet val i).length b→(∀ s',Moved (a::wr) G s s'→qR prog w s'.heap a (fun j=>(firstMet val n).any (· == j)) (firstMet val n).length b→R (.ok (.ret .none)) s') →
  codeAny (model prog w) A (.builtin "set.update.loop" ⟨[.ref a,.ref I],[]⟩) R s:=by
 have hw:a ∉ wr:=fun h=>hf (W.sub _ h)
 have hsub:∀ c∈wr,c∈a::wr:=fun c hc=>List.mem_cons_of_mem _ hc
 intro k
 induction k with
 | zero =>
  intro i s hk hi st hS q
  obtain rfl:i=n:=by omega
  refine codeAny_builtin F.entry_set_update_loop ?_
  rw [Around.under_plainId F.plain_set_update_loop _]
  refine (show wpAny _ A.in1 (pyNext (.ref I) >>= _) _ _ s from wpAny_bind (W.done s _ _ st fun s' m=>?_))
  exact (show wpAny _ A.in1 (ret Value.none) _ _ s' from wpAny_pure (q s' (m.mono hsub) (hS.at fun o e=>m.heap a o hw e)))
 | succ k ih =>
  intro i s hk hi st hS q
  refine codeAny_builtin F.entry_set_update_loop ?_
  rw [Around.under_plainId F.plain_set_update_loop _]
  refine (show wpAny _ A.in1 (pyNext (.ref I) >>= _) _ _ s from wpAny_bind (W.item i s _ _ (by omega) st fun v s' hP st' m=>?_))
  obtain ⟨t,rfl⟩:=hv i v hP
  refine (show wpAny _ A.in1 (holding [Value.int (val i) t] (setAdd a (.int (val i) t)) >>= _) _ _ s' from wpAny_bind (wpAny_holding ?_))
  unfold setAdd
  have hl:=firstMet_length_le val i
  refine wpAny_holding (wpAny_bind ((iK prog w).pyHash (k:=val i) (intKind_is _ _ _ _) (abO (s:={ s' with toks:=s'.toks+1 }) (intKind_is _ _ _ _) rfl (hS.at fun o e=>m.heap a o hw e) (by omega) fun h' sb S2=>?_)))
  have hSi:qR prog w h' a (fun j=>(firstMet val (i+1)).any (· == j)) (firstMet val (i+1)).length b:=S2.congr (fun j=>by rw [firstMet_succ,step_any]) (by rw [firstMet_succ,step_length])
  refine wpAny_pure ⟨plainId_quiet F.plain_set_update_loop _,ih (i+1) _ (by omega) (by omega) (W.frame _ s' _ _ st' (Nat.le_succ _) fun c hc o e=>?_) hSi fun s'' m2 S3=>?_⟩
  ·rw [sb.2 c fun z=>hf (by rw [←z];exact hc)];exact e
  ·refine q s'' (Moved.trans W.gtrans ((m.mono hsub).then_heap (Nat.le_succ _) fun c o hc e=>?_) m2) S3
   rw [sb.2 c fun z=>hc (by rw [z];exact List.mem_cons_self)];exact e
end
end
end SD
namespace SD
open PySem PyProof.Rows
section
variable {prog:Program} {w:World} {A:Around} {E:Value→Shared→Prop} {s:Shared}
set_option maxHeartbeats 3200000 in
theorem abQ {l:Addr} {its:Array Value} {ns:List Int} {Q:Value→Shared→Prop} (hh:A.handled=none) (hl:s.heap.IsList l its) (hi:IntsAre its.toList ns) (hz:its.size+1<scanBound)
  (q:∀ (h':Heap) (tk:Nat),qR prog w h' s.heap.objs.size (fun j=>(firstMet (fun i=>ns.getD i 0) its.size).any (· == j)) (firstMet (fun i=>ns.getD i 0) its.size).length (bo w) →
   (∀ b o,b<s.heap.objs.size→s.heap.get? b=some o→h'.get? b=some o)→Q (.ref s.heap.objs.size) { s with heap:=h',toks:=tk }) :
  wpAny (model prog w) A (call (.type "set") [.ref l]) Q E s:=by
 obtain ⟨c,tl,hmro⟩:=F.called_set.mro
 have hmade:=F.called_set.made
 have hsub:=F.called_set.sub
 refine wpAny_call (codeAny_of_tree (show wpAny _ _ (callAny (.type "set") _) _ _ _ from ?_))
 refine wpAny_pure ⟨Code.quiet_builtin _ (by decide +kernel),codeAny_builtin F.entry_type_call ?_⟩
 rw [Around.under_plain (weight_type_call_type "set" [.ref l] []) rfl]
 have h1:=F.called_set.notType
 have h2:=F.called_set.canCreate
 have hct:=F.typeCall_set_1 (.ref l)
 repeat (any_goals (first | assumption | wp_step))
 refine codeAny_mono (abP (.ref l) (E:=E) (Q₁:=fun ob s₁=>ob=.ref s.heap.objs.size∧s₁={ s with heap:=s.heap.push (fresh (bo w)) }) ⟨rfl,rfl⟩) fun r s₁ hr=>?_
 cases r with
 | error e=>exact hr
 | ok fl =>
  cases fl with
  | ret ob =>
   obtain ⟨rfl,rfl⟩:=hr
   have hS:(s.heap.push (fresh (bo w))).get? s.heap.objs.size=some (fresh (bo w)):=Heap.get?_push_size _ rfl
   have hT:Shared.TypeIs { s with heap:=s.heap.push (fresh (bo w)) } (.ref s.heap.objs.size) "set":=⟨_,hS,rfl⟩
   have hli:=F.called_set.init.lookup
   have hbi:=F.called_set.init.bind (.ref s.heap.objs.size)
   repeat (any_goals (first | assumption | wp_step))
   refine codeAny_mono (codeAny_call_builtin (R:=wants (fun r s₂=>r=.none∧∃ h' tk,s₂={ s with heap:=h',toks:=tk } ∧
     qR prog w h' s.heap.objs.size (fun j=>(firstMet (fun i=>ns.getD i 0) its.size).any (· == j)) (firstMet (fun i=>ns.getD i 0) its.size).length (bo w) ∧
     (∀ b o,b<s.heap.objs.size→s.heap.get? b=some o→h'.get? b=some o)) E) F.called_set.init.plain F.entry_set_init (check_set_init_1 hT ?_)) fun r₂ s₂ hr₂=>?_
   ·obtain ⟨⟨ocls,odict,odata,oslots⟩,hol,hcl,nl,hdl⟩:=hl
    simp only at hcl hdl
    subst hcl;subst hdl
    have hol':(s.heap.push (fresh (bo w))).get? l=some { cls:=.type "list",dict:=odict,data:=.seq its nl,slots:=oslots }:=Heap.get?_push_of_some _ hol
    have hsls:=F.sub_list_set
    have hslf:=F.sub_list_frozenset
    have hne:(Value.type "list" == Value.type "dict")=false:=by decide
    have hl1:(s.heap.push (fresh (bo w))).IsList l its:=⟨_,hol',rfl,nl,rfl⟩
    unfold Builtin.«set.__init__» noKeywords Builtin.Frozenset.updateFrom
    generalize hPI:pyIter=PI
    wp_walk
    subst hPI
    refine wpAny_pyIter_list hl1 (wpAny_bind (wpAny_runValue ?_))
    have hlS:l<s.heap.objs.size:=Heap.lt_size hol
    have hh3:A.in1.in1.in1.handled=none:=by simp [hh]
    have hsz:(s.heap.push (fresh (bo w))).objs.size=s.heap.objs.size+1:=Heap.size_push ..
    have hneI:l≠(s.heap.push (fresh (bo w))).objs.size:=by rw [hsz];exact Nat.ne_of_lt (Nat.lt_succ_of_lt hlS)
    have hSf:s.heap.objs.size ∉ [(s.heap.push (fresh (bo w))).objs.size,l]:=by
     rw [hsz]
     simp only [List.mem_cons,List.not_mem_nil,or_false,not_or]
     exact ⟨Nat.ne_of_lt (Nat.lt_succ_self _),Nat.ne_of_gt hlS⟩
    refine ZP (b:=bo w) ((Walks.list hh3 _ l hneI its).toS) s.heap.objs.size hSf (fun i=>ns.getD i 0) (fun i v hv=>IntsAre.int_at hi i v (by rw [Array.getElem?_toList];exact hv)) hz (its.size - 0) 0 _ (by omega) (Nat.zero_le _)
     ⟨⟨_,Heap.get?_push_size _ rfl,rfl,rfl⟩,(hl1.push _)⟩ ?hS0 ?hR
    case hS0=>exact Yg (bo w) (Heap.get?_push_of_some _ hS)
    case hR =>
     intro s' hm hS'
     obtain ⟨h',g',d',tk',os'⟩:=s'
     have eg:g' = s.gens:=hm.gens
     have ed:d' = s.drawn:=hm.drawn
     have eo:os' = s.os:=hm.os
     subst eg;subst ed;subst eo
     refine (show wpAny _ _ _ _ _ _ from wpAny_pure ?_)
     refine (show wpAny _ _ (ret Value.none) _ _ _ from wpAny_pure ⟨rfl,h',tk',rfl,hS',fun b o hb e=>?_⟩)
     refine hm.heap b o ?_ (Heap.get?_push_of_some _ (Heap.get?_push_of_some _ e))
     rw [hsz]
     simp only [List.mem_cons,List.not_mem_nil,or_false,not_or]
     exact ⟨Nat.ne_of_lt hb,Nat.ne_of_lt (Nat.lt_succ_of_lt hb)⟩
   ·cases r₂ with
    | error e=>exact hr₂
    | ok fl₂ =>
     cases fl₂ with
     | ret r =>
      obtain ⟨rfl,h',tk,rfl,hS',hk'⟩:=hr₂
      repeat (any_goals (first | assumption | wp_step))
      exact q _ _ hS' hk'
     | _=>exact hr₂.elim
  | _=>exact hr.elim
end
end SD
namespace SD
open PySem PyProof.Rows
theorem Yh:entryFor table "set.__iter__" = some Builtin.«frozenset.__iter__»:=entryFor_alias (id':="frozenset.__iter__") (by kernel_rfl) rfl (by decide +kernel) (by kernel_rfl)
theorem gB:Slot "set_iterator" "__next__" "set_iterator.__next__" :=
 .of (owner:="set_iterator") (n:="__next__") (by rw [typeLookup_type,builtinLookup_eq_fast];kernel_rfl) (by decide +kernel) (by decide +kernel) (by decide +kernel) (by first | exact .inl (by decide +kernel) | exact .inr (by decide +kernel)) (by rw [isSubtype_type];kernel_rfl)
theorem zj:entryFor table "set_iterator.__next__" = some Builtin.«set_iterator.__next__»:=entryFor_of_tree (by kernel_rfl)
theorem Nz:Manifest.owners.lookup (String.ofList ['r','o','t','a','r','e','t','i','_','t','e','s'].reverse)=some Manifest.sig_set_iterator:=by kernel_rfl
theorem EY (a:Value):argsOk "set_iterator.__next__" ⟨[a],[]⟩:=by
 unfold argsOk;rw [signature?_of (id:="set_iterator.__next__") (n:=['_','_','t','x','e','n','_','_']) (o:=['r','o','t','a','r','e','t','i','_','t','e','s']) (by kernel_rfl) Nz];kernel_rfl
section
variable {prog:Program} {w:World} {A:Around} {E:Value→Shared→Prop} {s:Shared}
theorem Yi {r:Addr} {Q:Bool→Shared→Prop} (hT:s.TypeIs (.ref r) "set") (q:Q false s):wpAny (model prog w) A (Builtin.List.listLengthHint (.ref r)) Q E s:=by
 unfold Builtin.List.listLengthHint
 refine wpAny_bind (wpAny_specialOf hT PySem.F.slot_set_len.lookup ?_)
 generalize hid:("set.__len__":String)=id0
 wp_delta
 rw [show splitId id0=some ("set","__len__") from by subst hid;decide +kernel]
 subst hid
 refine wpAny_bind (wpAny_isInstance (T:="set") (b:=true) hT (by rw [isSubtype_type];kernel_rfl) (wpAny_ite_split (fun z=>absurd z (by decide)) (fun _=>?_)))
 exact wpAny_ite_split (fun _=>wpAny_bind (wpAny_typeOf hT (wpAny_pure q))) (fun z=>absurd (by decide +kernel) z)
theorem JK {α:Type} {l:List α} {i:Nat} (h:i<l.length):(l[i]::l.eraseIdx i).Perm l:=by
 rw [List.eraseIdx_eq_take_drop_succ]
 refine List.perm_middle.symm.trans (List.Perm.of_eq ?_)
 rw [List.getElem_cons_drop,List.take_append_drop]
theorem Uz {src:Source} {n:Nat} {Q:Nat→Shared→Prop} {M:Model} (hn:n≠0) (q:∀ i,i<n→∀ d,Q i { s with drawn:=d }):wpAny M A (choose src n) Q E s:=fun Γ p hΓ=>by
 show Sem.wp M Γ (.choose src n .pure) _ _ p s
 rw [Sem.wp_choose]
 exact ⟨hn,q _ (Nat.mod_lt _ (Nat.pos_of_ne_zero hn)) _⟩
theorem Tt {α:Type} {M:Model}:∀ (n:Nat) (xs:List α) (s:Shared) (Q:List α→Shared→Prop),xs.length=n→(∀ ys d,ys.Perm xs→Q ys { s with drawn:=d })→wpAny M A (drawOrder n xs) Q E s
 | 0,xs,s,Q,hl,q=>by
  obtain rfl:xs=[]:=List.eq_nil_of_length_eq_zero hl
  exact wpAny_pure (q [] s.drawn (List.Perm.refl _))
 | n+1,[],s,Q,hl,q=>by cases hl
 | n+1,x::r,s,Q,hl,q=>by
  unfold drawOrder
  refine wpAny_bind (Uz (by simp) fun i hi d=>?_)
  rw [List.getElem?_eq_getElem hi]
  dsimp only
  refine wpAny_bind (Tt n ((x::r).eraseIdx i) _ _ (by rw [List.length_eraseIdx_of_lt hi];simp at hl ⊢;omega) fun ys d2 hp=>?_)
  refine wpAny_pure (q _ d2 ((hp.cons _).trans ?_))
  exact JK hi
theorem Tv {α:Type} (next:Nat→Nat):∀ (n k:Nat) (l:List α) (out:Array α),l.length=n→(pickOrder.go next n k l out).toList.Perm (out.toList++l)
 | 0,k,l,out,h=>by
  obtain rfl:l=[]:=List.eq_nil_of_length_eq_zero h
  unfold pickOrder.go
  rw [List.append_nil]
 | n+1,k,l,out,h=>by
  unfold pickOrder.go
  have hi:next k % l.length<l.length:=Nat.mod_lt _ (by omega)
  rw [List.getElem?_eq_getElem hi]
  dsimp only
  refine (Tv next n (k+1) _ _ (by rw [List.length_eraseIdx_of_lt hi];omega)).trans ?_
  rw [Array.toList_push,List.append_assoc]
  exact List.Perm.append_left _ (JK hi)
theorem UG {α:Type} (next:Nat→Nat) (xs:Array α):(pickOrder next xs).toList.Perm xs.toList:=by
 have:=Tv next xs.size 0 xs.toList #[] (by simp)
 unfold pickOrder
 simpa using this
end
end SD
namespace SD
open PySem PyProof.Rows
section
variable {prog:Program} {w:World} {A:Around} {E:Value→Shared→Prop} {s:Shared}
def zm (h:Heap) (it a:Addr) (f:Value) (i n ep:Nat):Prop:=∃ o,h.get? it=some o∧o.cls=.type "set_iterator"∧o.data=.fields #[f,.int i 0,.ref a,.int n 0,.int ep 0]
theorem zm.typeIs {it a:Addr} {f:Value} {i n ep:Nat} (x:zm s.heap it a f i n ep):s.TypeIs (.ref it) "set_iterator":=let ⟨o,ho,hc,_⟩:=x;⟨o,ho,hc⟩
theorem fld {h:Heap} {it:Addr} {oi:Obj} {vs:Array Value} {k:Nat} {v:Value} (ho:h.get? it=some oi) (hd:oi.data=.fields vs) (hc:oi.cls=.type "set_iterator") :
  (h.update it (Obj.mapFields (·.setIfInBounds k v))).get? it=some { oi with data:=.fields (vs.setIfInBounds k v) }∧True:=by
 refine ⟨?_,trivial⟩
 have e:=Heap.get?_update_self (Obj.mapFields (·.setIfInBounds k v)) ho (Obj.isFreed_of_fields (Obj.data_mapFields hd _))
 rw [e]
 obtain ⟨c,d,dt,sl⟩:=oi
 dsimp only at hd
 subst hd
 rfl
theorem Yj {it a:Addr} {o:Obj} {es:Array (Int×Value)} {t:SetTable} {slot nx i n ep:Nat} {v:Value} {Q:Option Value→Shared→Prop} (x:zm s.heap it a (rawInt slot) i n ep) (ha:s.heap.get? a=some o) (hd:o.data=.set es ep t) (hf:t.fits es.size=true) (hn:es.size=n)
  (hx:∀ (A:Around) (E:Value→Shared→Prop) (Q':Option (Value×Nat)→Shared→Prop),Q' (some (v,nx)) s→wpAny (model prog w) A (setNext a slot i ep) Q' E s)
  (q:∀ h',zm h' it a (rawInt nx) (i+1) n ep→Heap.SameBut it s.heap h'→Q (some v) { s with heap:=h' }):wpAny (model prog w) A (pyNext (.ref it)) Q E s:=by
 obtain ⟨oi,ho,hc,hdi⟩:=id x
 unfold pyNext
 refine wpAny_bind (wpAny_attempt (wpAny_callSpecial?_slot (name:=Str.ofString "__next__") x.typeIs gB (wpAny_call_entry gB x.typeIs zj ?_ (EY _))))
 unfold Builtin.«set_iterator.__next__» slotArgs
 refine wpAny_bind (wpAny_pure ?_)
 refine wpAny_bind (wpAny_fieldsOf ho hdi ?_)
 dsimp only
 refine wpAny_bind (wpAny_setEntries_of ha hd hf ?_)
 rw [if_neg (by rw [hn];simp)]
 refine (show wpAny _ _ (setNext a slot i ep >>= _) _ _ _ from wpAny_bind (hx _ _ _ ?_))
 dsimp only
 obtain ⟨x1,y1⟩:=fld ho hdi hc (k:=0) (v:=rawInt nx)
 refine wpAny_bind (wpAny_setField ho hdi (by simp) ?_)
 refine wpAny_bind (wpAny_setField x1 rfl (by simp) ?_)
 refine wpAny_pure ⟨v,rfl,wpAny_pure (q _ ⟨_,Heap.get?_update_self _ x1 (Obj.isFreed_of_fields (Obj.data_mapFields rfl _)),(Obj.cls_mapFields ..).trans hc,?_⟩ ((Heap.SameBut.update ..).trans (Heap.SameBut.update ..)))⟩
 rw [Obj.data_mapFields rfl]
 simp [rawInt]
theorem Tw {it:Addr} {oi:Obj} {vs:Array Value} {Q:Option Value→Shared→Prop} (hh:A.handled=none) (ho:s.heap.get? it=some oi) (hd:oi.data=.fields vs) (hz:2<vs.size) (q:∀ h',Heap.ExtBut it s.heap h'→Q none { s with heap:=h' }) :
  wpAny (model prog w) A.in1 (do
   setField (.ref it) 2 .none
   let e ←newExc (.type "StopIteration") []
   raiseNew e:Sem PySem.Fin) (fun fin s'=>∃ v,fin=Fin.done (Flow.ret v)∧wpAny (model prog w) A (pure (some v)) Q E s')
   (fun e s'=>wpAny (model prog w) A (do
    let b ←isInstance e (.type "StopIteration")
    if b=true then pure none else throw e) Q E s') s:=by
 refine wpAny_bind (wpAny_setField ho hd hz (wpAny_bind ?_))
 simp only [newExc,newTuple]
 refine wpAny_bind (wpAny_newObj_type ?_ (by size_fits))
 refine wpAny_bind (m:=firstArgMember _ _) (wpAny_of_eq (a:=Value.none) (by first | rfl | (simp only [firstArgMember];rfl)) (wpAny_newObj_type ?_ (by size_fits)))
 simp only [raiseNew]
 refine wpAny_bind (wpAny_handled ?_)
 rw [show A.in1.handled=none from hh]
 refine wpAny_bind (wpAny_pure ?_)
 refine wpAny_throw (wpAny_bind ?_)
 refine wpAny_isInstance (T:="StopIteration") (b:=true) ⟨_,Heap.get?_push_size _ rfl,rfl⟩ isSubtype_stop ?_
 exact wpAny_pure (q _ (((Heap.SameBut.update ..).extBut.push _).push _))
theorem Kw {it a:Addr} {o:Obj} {es:Array (Int×Value)} {t:SetTable} {slot i n ep:Nat} {Q:Option Value→Shared→Prop} (hh:A.handled=none) (x:zm s.heap it a (rawInt slot) i n ep) (ha:s.heap.get? a=some o) (hd:o.data=.set es ep t) (hf:t.fits es.size=true) (hn:es.size=n)
  (hx:∀ (A:Around) (E:Value→Shared→Prop) (Q':Option (Value×Nat)→Shared→Prop),Q' none s→wpAny (model prog w) A (setNext a slot i ep) Q' E s)
  (q:∀ h',Heap.ExtBut it s.heap h'→Q none { s with heap:=h' }):wpAny (model prog w) A (pyNext (.ref it)) Q E s:=by
 obtain ⟨oi,ho,hc,hdi⟩:=id x
 unfold pyNext
 refine wpAny_bind (wpAny_attempt (wpAny_callSpecial?_slot (name:=Str.ofString "__next__") x.typeIs gB (wpAny_call_entry gB x.typeIs zj ?_ (EY _))))
 unfold Builtin.«set_iterator.__next__» slotArgs
 refine wpAny_bind (wpAny_pure (wpAny_bind (wpAny_fieldsOf ho hdi ?_)))
 dsimp only
 refine wpAny_bind (wpAny_setEntries_of ha hd hf ?_)
 rw [if_neg (by rw [hn];simp)]
 refine (show wpAny _ _ (setNext a slot i ep >>= _) _ _ _ from wpAny_bind (hx _ _ _ ?_))
 exact Tw hh ho hdi (by simp) q
theorem Yk {it a tu:Addr} {o ot:Obj} {es:Array (Int×Value)} {t:SetTable} {ps:Array Value} {pl i n ep c:Nat} {tk:Tok} {h:Int} {v:Value} {Q:Option Value→Shared→Prop} (x:zm s.heap it a (.ref tu) i n ep) (ha:s.heap.get? a=some o) (hd:o.data=.set es ep t) (hf:t.fits es.size=true) (hn:es.size=n)
  (ht:s.heap.get? tu=some ot) (htd:ot.data=.seq ps c) (hp:ps[i]? = some (.int (pl:Int) tk)) (he:es[pl]? = some (h,v))
  (q:∀ h',zm h' it a (.ref tu) (i+1) n ep→Heap.SameBut it s.heap h'→Q (some v) { s with heap:=h' }):wpAny (model prog w) A (pyNext (.ref it)) Q E s:=by
 obtain ⟨oi,ho,hc,hdi⟩:=id x
 unfold pyNext
 refine wpAny_bind (wpAny_attempt (wpAny_callSpecial?_slot (name:=Str.ofString "__next__") x.typeIs gB (wpAny_call_entry gB x.typeIs zj ?_ (EY _))))
 unfold Builtin.«set_iterator.__next__» slotArgs
 refine wpAny_bind (wpAny_pure (wpAny_bind (wpAny_fieldsOf ho hdi ?_)))
 dsimp only
 refine wpAny_bind (wpAny_setEntries_of ha hd hf ?_)
 rw [if_neg (by rw [hn];simp)]
 refine wpAny_bind ?_
 unfold seqItems?
 dsimp only
 refine wpAny_bind (wpAny_load ht ?_)
 rw [htd]
 refine wpAny_pure ?_
 dsimp only
 rw [show ((i:Int)).toNat=i from rfl,hp]
 dsimp only
 unfold setNextDrawn
 refine wpAny_bind (wpAny_bind (wpAny_setState_of ha hd hf ?_))
 dsimp only
 rw [if_neg (by simp),show ((pl:Int)).toNat=pl from rfl,he]
 refine wpAny_pure ?_
 refine wpAny_bind (wpAny_setField ho hdi (by simp) ?_)
 refine wpAny_pure ⟨v,rfl,wpAny_pure (q _ ⟨_,Heap.get?_update_self _ ho (Obj.isFreed_of_fields (Obj.data_mapFields hdi _)),(Obj.cls_mapFields ..).trans hc,?_⟩ (Heap.SameBut.update ..))⟩
 rw [Obj.data_mapFields hdi]
 simp [rawInt]
theorem Ky {it a tu:Addr} {o ot:Obj} {es:Array (Int×Value)} {t:SetTable} {ps:Array Value} {i n ep c:Nat} {Q:Option Value→Shared→Prop} (hh:A.handled=none) (x:zm s.heap it a (.ref tu) i n ep) (ha:s.heap.get? a=some o) (hd:o.data=.set es ep t) (hf:t.fits es.size=true) (hn:es.size=n)
  (ht:s.heap.get? tu=some ot) (htd:ot.data=.seq ps c) (hp:ps[i]? = none)
  (q:∀ h',Heap.ExtBut it s.heap h'→Q none { s with heap:=h' }):wpAny (model prog w) A (pyNext (.ref it)) Q E s:=by
 obtain ⟨oi,ho,hc,hdi⟩:=id x
 unfold pyNext
 refine wpAny_bind (wpAny_attempt (wpAny_callSpecial?_slot (name:=Str.ofString "__next__") x.typeIs gB (wpAny_call_entry gB x.typeIs zj ?_ (EY _))))
 unfold Builtin.«set_iterator.__next__» slotArgs
 refine wpAny_bind (wpAny_pure (wpAny_bind (wpAny_fieldsOf ho hdi ?_)))
 dsimp only
 refine wpAny_bind (wpAny_setEntries_of ha hd hf ?_)
 rw [if_neg (by rw [hn];simp)]
 refine wpAny_bind ?_
 unfold seqItems?
 dsimp only
 refine wpAny_bind (wpAny_load ht ?_)
 rw [htd]
 refine wpAny_pure ?_
 dsimp only
 rw [show ((i:Int)).toNat=i from rfl,hp]
 dsimp only
 obtain ⟨x1,_⟩:=fld ho hdi hc (k:=0) (v:=rawInt 0)
 refine wpAny_bind (wpAny_setField ho hdi (by simp) ?_)
 exact Tw (s:={ s with heap:=s.heap.update it (Obj.mapFields (·.setIfInBounds 0 (rawInt 0))) }) hh x1 rfl (by simp) fun h' e=>q h' fun b o' hb g=>e b o' hb (by rw [(Heap.SameBut.update s.heap it _).2 b hb];exact g)
end
end SD
namespace SD
open PySem PyProof.Rows
theorem NK:Slot "set_iterator" "__iter__" "set_iterator.__iter__" :=
 .of (owner:="set_iterator") (n:="__iter__") (by rw [typeLookup_type,builtinLookup_eq_fast];kernel_rfl) (by decide +kernel) (by decide +kernel) (by decide +kernel) (by first | exact .inl (by decide +kernel) | exact .inr (by decide +kernel)) (by rw [isSubtype_type];kernel_rfl)
theorem UJ:entryFor table "set_iterator.__iter__" = some Builtin.«dict_keyiterator.__iter__»:=entryFor_alias (id':="dict_keyiterator.__iter__") (by kernel_rfl) rfl (by decide +kernel) (by kernel_rfl)
theorem Yl (a:Value):argsOk "set_iterator.__iter__" ⟨[a],[]⟩:=by
 unfold argsOk;rw [signature?_of (id:="set_iterator.__iter__") (n:=['_','_','r','e','t','i','_','_']) (o:=['r','o','t','a','r','e','t','i','_','t','e','s']) (by kernel_rfl) Nz];kernel_rfl
theorem zm.at {h h':Heap} {it a:Addr} {f:Value} {i n ep:Nat} (x:zm h it a f i n ep) (k:∀ o,h.get? it=some o→h'.get? it=some o):zm h' it a f i n ep:=let ⟨o,ho,r⟩:=x;⟨o,k _ ho,r⟩
section
variable {prog:Program} {w:World} {A:Around} {E:Value→Shared→Prop} {s:Shared}
theorem Tz {it a:Addr} {f:Value} {i n ep:Nat} {Q:Value→Shared→Prop} (x:zm s.heap it a f i n ep) (q:Q (.ref it) s):wpAny (model prog w) A (pyIter (.ref it)) Q E s:=by
 refine wpAny_pyIter_slot x.typeIs NK (wpAny_call_entry NK x.typeIs UJ ?_ (Yl _))
 exact (show wpAny _ _ (ret (.ref it)) _ _ s from wpAny_pure ⟨_,rfl,"set_iterator",_,x.typeIs,gB.lookup,q⟩)
theorem Ym (hh:A.handled=none) {I a:Addr} (hne:a≠I) {o:Obj} {es:Array (Int×Value)} {t:SetTable} {ep:Nat} (hd:o.data=.set es ep t) (hf:t.fits es.size=true) (sl:Nat→Nat) (vs:List Value) (hl:vs.length=es.size)
  (hx:∀ (k:Nat) (v:Value),vs[k]? = some v→∀ (s:Shared) (A:Around) (E:Value→Shared→Prop) (Q':Option (Value×Nat)→Shared→Prop),s.heap.get? a=some o→Q' (some (v,sl (k+1))) s→wpAny (model prog w) A (setNext a (sl k) k ep) Q' E s)
  (hy:∀ (s:Shared) (A:Around) (E:Value→Shared→Prop) (Q':Option (Value×Nat)→Shared→Prop),s.heap.get? a=some o→Q' none s→wpAny (model prog w) A (setNext a (sl es.size) es.size ep) Q' E s) :
  Walks prog w A I [I,a] [I] es.size (fun i v=>vs[i]? = some v) (fun i h=>zm h I a (rawInt (sl i)) i es.size ep∧h.get? a=some o) where
 sub:=fun b hb=>by simp at hb;simp [hb]
 frame:=fun _ _ _ st hk=>⟨st.1.at fun o e=>hk I (by simp) o e,hk a (by simp) _ st.2⟩
 item:=fun i s Q E hi st hQ=>by
  have hv:vs[i]? = some (vs[i]'(by omega)):=List.getElem?_eq_getElem (by omega)
  refine Yj st.1 st.2 hd hf rfl (fun A E Q' y=>hx i _ hv s A E Q' st.2 y) fun h' x' sb=>?_
  exact hQ _ h' s.toks hv ⟨x',by rw [sb.2 a hne];exact st.2⟩ fun b o' hb e=>sb.extBut b o' (fun z=>hb (by simp [z])) e
 done:=fun s Q E st hQ=>Kw hh st.1 st.2 hd hf rfl (fun A E Q' y=>hy s A E Q' st.2 y) fun h' eb=>hQ h' s.toks fun b o' hb e=>eb b o' (fun z=>hb (by simp [z])) e
 self:=fun _ _ _ _ st hQ=>Tz st.1 hQ
theorem Yn (hh:A.handled=none) {I a tu:Addr} (hne:a≠I) (hnt:tu≠I) {o ot:Obj} {es:Array (Int×Value)} {t:SetTable} {ep c:Nat} (hd:o.data=.set es ep t) (hf:t.fits es.size=true) (ps:List Nat) (hp:ps.Perm (List.range es.size)) (htd:ot.data=.seq (ps.map fun i=>rawInt (i:Nat)).toArray c) (vs:List Value)
  (hvs:vs=ps.filterMap fun p=>(es[p]?).map (·.2)) :
  Walks prog w A I [I,a,tu] [I] es.size (fun i v=>vs[i]? = some v) (fun i h=>zm h I a (.ref tu) i es.size ep∧h.get? a=some o∧h.get? tu=some ot):=by
 have hlen:ps.length=es.size:=by rw [hp.length_eq,List.length_range]
 have hlt:∀ p∈ps,p<es.size:=fun p hm=>List.mem_range.mp (hp.mem_iff.mp hm)
 have aei:vs=ps.map fun p=>(es.getD p (0,.none)).2:=by
  rw [hvs]
  clear hvs hp htd hlen
  induction ps with
  | nil=>rfl
  | cons p r ih =>
   have h1:=hlt p List.mem_cons_self
   rw [List.filterMap_cons,List.map_cons,ih fun q hq=>hlt q (List.mem_cons_of_mem _ hq),Array.getElem?_eq_getElem h1,Array.getD_eq_getD_getElem?,Array.getElem?_eq_getElem h1]
   rfl
 refine ⟨fun b hb=>by simp at hb;simp [hb],fun _ _ _ st hk=>⟨st.1.at fun o e=>hk I (by simp) o e,hk a (by simp) _ st.2.1,hk tu (by simp) _ st.2.2⟩,fun i s Q E hi st hQ=>?_,fun s Q E st hQ=>?_,fun _ _ _ _ st hQ=>Tz st.1 hQ⟩
 ·have hpi:ps[i]? = some (ps[i]'(by omega)):=List.getElem?_eq_getElem (by omega)
  have hpl:=hlt _ (List.mem_of_getElem? hpi)
  have hv:vs[i]? = some (es[ps[i]'(by omega)]'hpl).2:=by rw [aei,List.getElem?_map,hpi];simp [Array.getD_eq_getD_getElem?,Array.getElem?_eq_getElem hpl]
  refine Yk (pl:=ps[i]'(by omega)) (tk:=0) st.1 st.2.1 hd hf rfl st.2.2 htd (by simp [hpi,rawInt]) (Array.getElem?_eq_getElem hpl) fun h' x' sb=>?_
  exact hQ _ h' s.toks hv ⟨x',by rw [sb.2 a hne];exact st.2.1,by rw [sb.2 tu hnt];exact st.2.2⟩ fun b o' hb e=>sb.extBut b o' (fun z=>hb (by simp [z])) e
 ·refine Ky hh st.1 st.2.1 hd hf rfl st.2.2 htd (by simp [hlen]) fun h' eb=>hQ h' s.toks fun b o' hb e=>eb b o' (fun z=>hb (by simp [z])) e
theorem JL {a:Addr} {o:Obj} {es:Array (Int×Value)} {t:SetTable} {ep slot k:Nat} {Q:Option (Value×Nat)→Shared→Prop} (hb:w.params.followText "set-order" = true) (ha:s.heap.get? a=some o) (hd:o.data=.set es ep t) (hf:t.fits es.size=true)
  (q:Q (((pickOrder (w.params.setOrder a ep) es)[k]?).map fun e=>(e.2,slot)) s):wpAny (model prog w) A (setNext a slot k ep) Q E s:=by
 unfold setNext setsByText
 refine wpAny_bind (wpAny_setState_of ha hd hf ?_)
 refine wpAny_bind (wpAny_bind (wpAny_askSetting (wpAny_pure ?_)))
 rw [if_pos (show (model prog w).w.params.followText "set-order" = true from hb),if_neg (by simp)]
 unfold setWalk setsByText
 refine wpAny_bind (wpAny_bind (wpAny_setState_of ha hd hf ?_))
 refine wpAny_bind (wpAny_bind (wpAny_askSetting (wpAny_pure ?_)))
 rw [if_pos (show (model prog w).w.params.followText "set-order" = true from hb)]
 exact wpAny_bind (wpAny_askSetting (wpAny_pure (wpAny_pure q)))
theorem slot_next {a:Addr} {o:Obj} {es:Array (Int×Value)} {t:SetTable} {ep slot k:Nat} {Q:Option (Value×Nat)→Shared→Prop} (hb:w.params.followText "set-order" = false) (hl:t.led=true) (hp:(!t.plain && decide (es.size > 1))=false) (ha:s.heap.get? a=some o) (hd:o.data=.set es ep t) (hf:t.fits es.size=true)
  (q:Q (match es[SetTable.below t.place slot]?,t.place[SetTable.below t.place slot]? with
   | some (_,x),some j=>some (x,j+1)
   | _,_=>none) s):wpAny (model prog w) A (setNext a slot k ep) Q E s:=by
 unfold setNext setsByText
 refine wpAny_bind (wpAny_setState_of ha hd hf ?_)
 refine wpAny_bind (wpAny_bind (wpAny_askSetting (wpAny_pure ?_)))
 rw [if_neg (show ¬ (model prog w).w.params.followText "set-order" = true by show ¬ w.params.followText "set-order" = true;rw [hb];decide)]
 refine wpAny_ite_split (fun z=>absurd z (show ¬ (!t.plain && decide (es.size > 1))=true by rw [hp];decide)) (fun _=>?_)
 refine wpAny_bind ?_
 refine (show wpAny _ _ (if (!t.led && !es.isEmpty)=true then _ else _) _ _ _ from ?_)
 rw [if_neg (by rw [hl];simp)]
 exact wpAny_pure (wpAny_pure q)
end
end SD
namespace SD
open PySem PyProof.Rows
def Dt (ps:Array Nat) (k:Nat):Nat:=if k=0 then 0 else ps.getD (k - 1) 0+1
theorem NP {ps:Array Nat} (R:Kv ps) {k:Nat} (hk:k≤ps.size):SetTable.below ps (Dt ps k)=k:=by
 obtain ⟨h0,h1,h2⟩:=Nv R (Dt ps k)
 have at_:∀ j,j<ps.size→ps[j]? = some (ps.getD j 0):=fun j hj=>by rw [Array.getD_eq_getD_getElem?,Array.getElem?_eq_getElem hj];rfl
 rcases Nat.lt_trichotomy (SetTable.below ps (Dt ps k)) k with z | z | z
 ·have a1:=h2 _ _ (Nat.le_refl _) (at_ _ (by omega))
  unfold Dt at a1
  rw [if_neg (by omega)] at a1
  by_cases e:SetTable.below ps (Dt ps k)=k - 1
  ·unfold Dt at e
   rw [if_neg (by omega)] at e
   rw [e] at a1;omega
  ·have:=R _ (k - 1) _ _ (by omega) (at_ (SetTable.below ps (Dt ps k)) (by omega)) (at_ (k - 1) (by omega))
   unfold Dt at this
   rw [if_neg (by omega)] at this
   omega
 ·exact z
 ·have a1:=h1 k _ z (at_ k (by omega))
  unfold Dt at a1
  by_cases e:k=0
  ·rw [if_pos e] at a1;omega
  ·rw [if_neg e] at a1
   have:=R (k - 1) k _ _ (by omega) (at_ (k - 1) (by omega)) (at_ k (by omega))
   omega
section
variable {prog:Program} {w:World} {A:Around} {E:Value→Shared→Prop} {s:Shared}
theorem UL {t:SetTable} {n:Nat} (h:t.fits n=true):t.place.size=n:=by
 unfold SetTable.fits at h
 simp only [Bool.and_eq_true,beq_iff_eq] at h
 exact h.1
theorem Yo (hh:A.handled=none) {a:Addr} {o:Obj} {es:Array (Int×Value)} {t:SetTable} {ep:Nat} {Q:Value→Shared→Prop} (ha:s.heap.get? a=some o) (hx:o.ExactSet) (hd:o.data=.set es ep t) (hf:t.fits es.size=true) (hz:es.size<scanBound) (I:TI (bo w) t)
  (q:∀ (h':Heap) (d:Drawn) (it:Addr) (fp:List Addr) (vs:List Value) (St:Nat→Heap→Prop),vs.Perm (es.toList.map (·.2))→(∀ b o,s.heap.get? b=some o→h'.get? b=some o)→(∀ b∈fp,b=a∨s.heap.objs.size≤b)→s.heap.objs.size≤it →
   Walks prog w A it fp [it] es.size (fun i v=>vs[i]? = some v) St→St 0 h'→Q (.ref it) { s with heap:=h',drawn:=d }):wpAny (model prog w) A (pyIter (.ref a)) Q E s:=by
 have hT:s.TypeIs (.ref a) "set":=⟨o,ha,hx.1⟩
 have hlt:a<s.heap.objs.size:=Heap.lt_size ha
 refine wpAny_pyIter_slot hT F.slot_set_iter (wpAny_call_entry F.slot_set_iter hT Yh ?_ (F.args_set_iter_1 _))
 unfold Builtin.«frozenset.__iter__» Builtin.Frozenset.slot0 slotArgs
 simp only [List.isEmpty_nil,Bool.not_true,Bool.false_eq_true,↓reduceIte,bind_assoc,List.length_nil,bne_self_eq_false]
 unfold Builtin.Frozenset.addrOf Builtin.Frozenset.sizeOf
 refine wpAny_bind (wpAny_pure ?_)
 dsimp only
 refine wpAny_bind (wpAny_pure (wpAny_bind (wpAny_bind (wpAny_setEntries_of ha hd hf (wpAny_pure ?_)))))
 unfold setDrawn setsByText
 refine wpAny_bind (wpAny_bind (wpAny_setState_of ha hd hf ?_))
 refine wpAny_bind (wpAny_bind (wpAny_askSetting (wpAny_pure (wpAny_pure ?_))))
 have TF:∀ (sl:Nat→Nat) (vs:List Value),sl 0=0→vs.Perm (es.toList.map (·.2))→(∀ (k:Nat) (v:Value),vs[k]? = some v→∀ (s:Shared) (A:Around) (E:Value→Shared→Prop) (Q':Option (Value×Nat)→Shared→Prop),s.heap.get? a=some o→Q' (some (v,sl (k+1))) s→wpAny (model prog w) A (setNext a (sl k) k ep) Q' E s) →
   (∀ (s:Shared) (A:Around) (E:Value→Shared→Prop) (Q':Option (Value×Nat)→Shared→Prop),s.heap.get? a=some o→Q' none s→wpAny (model prog w) A (setNext a (sl es.size) es.size ep) Q' E s) →
   Q (.ref s.heap.objs.size) { s with heap:=s.heap.push { cls:=.type "set_iterator",dict:=none,data:=.fields [rawInt 0,rawInt 0,.ref a,rawInt es.size,rawInt ep].toArray } }:=fun sl vs h0 hp h1 h2=>by
  have hl:vs.length=es.size:=by rw [hp.length_eq,List.length_map,Array.length_toList]
  refine q _ s.drawn _ _ vs _ hp (fun b o e=>Heap.get?_push_of_some _ e) (fun b hb=>?_) (Nat.le_refl _) (Ym hh (I:=s.heap.objs.size) (Nat.ne_of_lt hlt) hd hf sl vs hl h1 h2) ⟨⟨_,Heap.get?_push_size _ rfl,rfl,by rw [h0];rfl⟩,Heap.get?_push_of_some _ ha⟩
  rcases List.mem_cons.mp hb with z | z
  ·exact .inr (by rw [z];exact Nat.le_refl _)
  ·exact .inl (List.mem_singleton.mp z)
 by_cases hb:w.params.followText "set-order" = true
 ·rw [show (!(model prog w).w.params.followText "set-order")=false by show (!w.params.followText "set-order")=false;rw [hb];rfl,Bool.false_and]
  refine wpAny_ite_split (fun z=>absurd z (by decide)) (fun _=>wpAny_bind (wpAny_pure (wpAny_bind ?_)))
  unfold setEpoch
  refine wpAny_bind (wpAny_setState_of ha hd hf (wpAny_pure (wpAny_bind (wpAny_newObj_type (wpAny_pure ⟨_,rfl,"set_iterator",_,⟨_,Heap.get?_push_size _ rfl,rfl⟩,gB.lookup,?_⟩)))))
  have hp:=UG (w.params.setOrder a ep) es
  refine TF (fun _=>0) ((pickOrder (w.params.setOrder a ep) es).toList.map (·.2)) rfl (hp.map _) (fun k v hv s' A' E' Q' ha' y=>JL hb ha' hd hf ?_) (fun s' A' E' Q' ha' y=>JL hb ha' hd hf ?_)
  ·rw [List.getElem?_map,Array.getElem?_toList,Option.map_eq_some_iff] at hv
   obtain ⟨e,he,rfl⟩:=hv
   rw [he];exact y
  ·rw [Array.getElem?_eq_none (by rw [←Array.length_toList,hp.length_eq,Array.length_toList];exact Nat.le_refl _)];exact y
 ·have hb:w.params.followText "set-order" = false:=by simpa using hb
  have ac3:t.led=true:=by rw [I.led];unfold bo;rw [hb];rfl
  rw [show (!(model prog w).w.params.followText "set-order")=true by show (!w.params.followText "set-order")=true;rw [hb];rfl,Bool.true_and]
  refine wpAny_ite_split (fun z=>?_) (fun z=>?_)
  ·refine wpAny_bind (Tt es.size (List.range es.size) _ _ (by rw [List.length_range]) fun ps d hp=>?_)
   have hpl:ps.length=es.size:=by rw [hp.length_eq,List.length_range]
   refine wpAny_bind ?_
   simp only [newTuple]
   refine wpAny_newObj_type (wpAny_bind ?_) (by show (ps.map _).toArray.size≤sizeLine;simp only [List.size_toArray,List.length_map,hpl];exact fits_of_scanBound hz)
   unfold setEpoch
   have ha2:(s.heap.push { cls:=.type "tuple",dict:=none,data:=.seq (ps.map fun (i:Nat)=>rawInt i).toArray }).get? a=some o:=Heap.get?_push_of_some _ ha
   refine wpAny_bind (wpAny_setState_of ha2 hd hf (wpAny_pure (wpAny_bind (wpAny_newObj_type (wpAny_pure ⟨_,rfl,"set_iterator",_,⟨_,Heap.get?_push_size _ rfl,rfl⟩,gB.lookup,?_⟩)))))
   have hsz:(s.heap.push { cls:=.type "tuple",dict:=none,data:=.seq (ps.map fun (i:Nat)=>rawInt i).toArray }).objs.size=s.heap.objs.size+1:=Heap.size_push ..
   have hpv:(ps.filterMap fun p=>(es[p]?).map (·.2)).Perm (es.toList.map (·.2)):=by
    refine (hp.filterMap _).trans (List.Perm.of_eq ?_)
    rw [←filterMap_getElem?_range es,List.map_filterMap]
   refine q _ d _ [_,a,s.heap.objs.size] (ps.filterMap fun p=>(es[p]?).map (·.2)) _ hpv (fun b o e=>Heap.get?_push_of_some _ (Heap.get?_push_of_some _ e)) (fun b hb=>?_) ?_ (Yn hh (I:=(s.heap.push { cls:=.type "tuple",dict:=none,data:=.seq (ps.map fun (i:Nat)=>rawInt i).toArray }).objs.size) (tu:=s.heap.objs.size) (ot:={ cls:=.type "tuple",dict:=none,data:=.seq (ps.map fun (i:Nat)=>rawInt i).toArray }) (by rw [hsz];exact Nat.ne_of_lt (Nat.lt_succ_of_lt hlt)) (by rw [hsz];exact Nat.ne_of_lt (Nat.lt_succ_self _)) hd hf ps hp rfl _ rfl) ⟨⟨_,Heap.get?_push_size _ rfl,rfl,rfl⟩,Heap.get?_push_of_some _ ha2,Heap.get?_push_of_some _ (Heap.get?_push_size _ rfl)⟩
   ·simp only [List.mem_cons,List.not_mem_nil,or_false] at hb
    rcases hb with z | z | z
    ·exact .inr (by rw [z,hsz];exact Nat.le_succ _)
    ·exact .inl z
    ·exact .inr (by rw [z];exact Nat.le_refl _)
   ·rw [hsz];exact Nat.le_succ _
  ·have hnd:(!t.plain && decide (es.size > 1))=false:=Bool.eq_false_iff.mpr z
   refine wpAny_bind (wpAny_pure (wpAny_bind ?_))
   unfold setEpoch
   refine wpAny_bind (wpAny_setState_of ha hd hf (wpAny_pure (wpAny_bind (wpAny_newObj_type (wpAny_pure ⟨_,rfl,"set_iterator",_,⟨_,Heap.get?_push_size _ rfl,rfl⟩,gB.lookup,?_⟩)))))
   have hps:=UL hf
   refine TF (Dt t.place) (es.toList.map (·.2)) rfl (List.Perm.refl _) (fun k v hv s' A' E' Q' ha' y=>slot_next hb ac3 hnd ha' hd hf ?_) (fun s' A' E' Q' ha' y=>slot_next hb ac3 hnd ha' hd hf ?_)
   ·rw [List.getElem?_map,Array.getElem?_toList,Option.map_eq_some_iff] at hv
    obtain ⟨⟨hk,v'⟩,he,rfl⟩:=hv
    have hk':k<es.size:=(Array.getElem?_eq_some_iff.mp he).1
    rw [NP I.rise (by omega),he,Array.getElem?_eq_getElem (by omega)]
    dsimp only
    have:Dt t.place (k+1)=(t.place[k]'(by omega))+1:=by
     unfold Dt
     rw [if_neg (by omega),Nat.add_sub_cancel,Array.getD_eq_getD_getElem?,Array.getElem?_eq_getElem (by omega)];rfl
    rw [this] at y
    exact y
   ·rw [NP I.rise (by omega),Array.getElem?_eq_none (Nat.le_refl _)]
    exact y
end
end SD
namespace SR
open PySem PyProof.Rows
section
variable {prog:Program} {w:World} {A:Around} {E:Value→Shared→Prop} {s:Shared}
def nI:Value→Int
 | .int i _=>i
 | _=>0
theorem Qd {a b:Int} {t u:Tok} (hu:A.units<cLine) {Q:Bool→Shared→Prop} (q:Q (decide (a<b)) s):wpAny (model prog w) A (oneLt' true (.int a t) (.int b u)) Q E s:=by
 rw [oneLt'_eq]
 simp only [if_true]
 refine wpAny_bind (wpAny_cRoomFor hu ?_)
 refine wpAny_bind (wpAny_callSpecialIfBound?_slot (typeIs_int s a t) slot_int_lt (call_int_lt ?_))
 exact wpAny_truthy_bool q
theorem Yp {ok:Keyed→Prop} (hu:A.units<cLine) (hk:∀ x,ok x→∃ t,x.1=.int (nI x.1) t):Bh prog w A E s (fun x=>nI x.1) ok:=by
 intro x y st Q ox oy kd q
 rw [lt'_eq]
 refine wpS_bind (wpS_get ?_)
 rw [kd,keyLt'_oneType]
 obtain ⟨t,ex⟩:=hk x ox
 obtain ⟨u,ey⟩:=hk y oy
 rw [ex,ey]
 refine wpS_bind (wpS_lift (wpAny_attempt (Qd hu ?_)))
 exact ⟨rfl,wpS_pure q⟩
theorem UW {a:Addr} {n:Nat} {vs:List Value} {P:PySem.Fin→Shared→Prop} (hu:A.units<cLine) (ho:s.heap.get? a=some (seqObj "list" vs.toArray n)) (hv:∀ v∈vs,∃ t,v=.int (nI v) t) (nd:(vs.map nI).Nodup) (hz:vs.length<128)
  (q:∀ out:List Value,out.Perm vs→out.Pairwise (fun u v=>nI u<nI v)→P (.done (.ret .none)) { s with heap:=sortedHeap s.heap a vs out.toArray }):wpAny (model prog w) A (Builtin.«list.sort» ⟨[.ref a],[]⟩) P E s:=by
 obtain ⟨e1,c1⟩:∃ e1,(s.heap.update a (Obj.mapSeq fun _=>(#[]:Array Value))).get? a=some (seqObj "list" #[] e1):=⟨_,get?_update_seq ho fun _=>#[]⟩
 have c2:(((s.heap.update a (Obj.mapSeq fun _=>(#[]:Array Value))).push (seqObj "tuple" vs.toArray 0)).push (seqObj "list" #[] 0)).get? a=some (seqObj "list" #[] e1):=Heap.get?_push_of_some _ (Heap.get?_push_of_some _ c1)
 have small:vs.length≤sizeLine:=by rw [sizeLine_eq];omega
 have hza:vs.toArray.size=vs.length:=List.size_toArray
 have vq:∀ (st':SortSt),(arrOf st').Perm (pairsOf vs)→jw (fun x=>nI x.1) (arrOf st').toList→P (.done (.ret .none)) { s with heap:=sortedHeap s.heap a vs ((arrOf st').map (·.2)) }:=fun st' h1 h2=>by
  obtain ⟨g1,g2⟩:=Tq h1 h2
  have:=q _ g1 g2
  rw [Array.toArray_toList] at this
  exact this
 rw [list_sort_plain]
 refine wpAny_bind (listItems_at ho rfl (wpAny_bind (listUpdate_at ho rfl (wpAny_bind (seqEpoch_at c1 rfl (wpAny_bind (wpAny_newTuple (wpAny_bind (wpAny_newList (wpAny_holding ?_) (Nat.zero_le _))) (by show vs.length≤_;rw [sizeLine_eq];omega))))) (by rw [hza];exact small) (Nat.zero_le _))))
 show wpAny (model prog w) A _ P E (Shared.mk (((s.heap.update a (Obj.mapSeq fun _=>(#[]:Array Value))).push (seqObj "tuple" vs.toArray 0)).push (seqObj "list" #[] 0)) s.gens s.drawn s.toks s.os)
 dsimp only
 by_cases h2:vs.toArray.size<2
 ·rw [if_pos h2,if_pos h2]
  refine wpAny_bind (wpAny_pure ?_)
  rw [StateT.run_pure]
  refine wpAny_bind (wpAny_pure ?_)
  dsimp only
  refine wpAny_bind (seqEpoch_at c2 rfl (wpAny_bind (listUpdate_at c2 rfl ?_ (Nat.zero_le _) (by rw [Array.size_map];show (pairsOf vs).size≤_;rw [pairsOf_size,sizeLine_eq];omega))))
  rw [if_neg (by simp)]
  refine wpAny_pure (vq (SortSt.mk' general' (vs.toArray.zip vs.toArray) #[] 7 none) (Array.Perm.refl _) ?_)
  show jw _ (pairsOf vs).toList
  rw [gY]
  have h3:vs.length<2:=by rw [←hza];exact h2
  match vs,h3 with
  | [],_=>exact List.Pairwise.nil
  | [v],_=>exact List.pairwise_singleton _ _
 ·rw [if_neg h2,if_neg h2]
  refine wpAny_bind (PySem.W.kas_kind (T:=.type "int") (by omega) (fun v hm=>by
   obtain ⟨t,e⟩:=hv v hm
   rw [e]
   exact PySem.W.Looks.of_pure rfl) (by decide) (by decide) ?_)
  have kp:(pairsOf vs).toList.map (fun x=>nI x.1)=vs.map nI:=by rw [gY,List.map_map];rfl
  have Yb:∀ x∈(pairsOf vs).toList,x.1∈vs:=fun x hx=>by
   rw [gY] at hx
   obtain ⟨v,hm,rfl⟩:=List.mem_map.mp hx
   exact hm
  have hL:Bh prog w A E (Shared.mk (((s.heap.update a (Obj.mapSeq fun _=>(#[]:Array Value))).push (seqObj "tuple" vs.toArray 0)).push (seqObj "list" #[] 0)) s.gens s.drawn s.toks s.os) (fun x=>nI x.1) (fun x=>x∈(pairsOf vs).toList) :=
   Yp hu fun x hx=>hv x.1 (Yb x hx)
  have run:=Tp (a0:=pairsOf vs) (st:=SortSt.mk' oneType' (vs.toArray.zip vs.toArray) #[] 7 none) (Q:=fun _ st'=>(arrOf st').Perm (pairsOf vs)∧failedOf st' = none∧jw (fun x=>nI x.1) (arrOf st').toList) hL (by rw [pairsOf_size];omega) (by rw [pairsOf_size];exact hz) ⟨Array.Perm.refl _,rfl,rfl,fun x hx=>hx,by rw [kp];exact nd,fun _ _=>rfl⟩ rfl (fun st' P' up=>⟨P'.pm,P'.fl,by
    have:=Kr (lo:=0) up (by rw [P'.size];omega)
    rw [List.drop_zero,List.take_of_length_le (by rw [Array.length_toList,P'.size];exact Nat.le_refl _)] at this
    exact this⟩)
  refine wpAny_bind (wpAny_mono run ?_ fun _ _ e=>e)
  rintro ⟨⟨⟩,st'⟩ s' ⟨rfl,g1,g2,g3⟩
  dsimp only
  refine wpAny_bind (seqEpoch_at c2 rfl (wpAny_bind (listUpdate_at c2 rfl ?_ (Nat.zero_le _) (by rw [Array.size_map,g1.size_eq,pairsOf_size,sizeLine_eq];omega))))
  rw [g2]
  dsimp only
  rw [if_neg (by simp)]
  exact wpAny_pure (vq st' g1 g3)
end
end SR
namespace SD
open PySem PyProof.Rows
section
variable {prog:Program} {w:World} {A:Around} {E:Value→Shared→Prop} {s:Shared}
theorem Qe {R:Result→Shared→Prop} (hh:A.handled=none) {a L:Addr} {o:Obj} {es:Array (Int×Value)} {t:SetTable} {ep c:Nat} (res:Value) (ha:s.heap.get? a=some o) (hx:o.ExactSet) (hd:o.data=.set es ep t) (hf:t.fits es.size=true) (hz:es.size<scanBound) (I:TI (bo w) t) (hne:L≠a)
  (hL:s.heap.get? L=some { cls:=.type "list",data:=.seq #[] c })
  (q:∀ (h':Heap) (d:Drawn) (tk:Nat) (acc:Array Value) (c':Nat),(∀ b o,b≠L→s.heap.get? b=some o→h'.get? b=some o)→h'.get? L=some { cls:=.type "list",dict:=none,data:=.seq acc c',slots:=#[] }→acc.toList.Perm (es.toList.map (·.2))→R (.ok (.ret res)) { s with heap:=h',drawn:=d,toks:=tk }) :
  wpAny (model prog w) A.in1 (Builtin.List.listExtendWith (.ref L) (.ref a) res) (fun fin s'=>match fin with | .done f=>R (.ok f) s' | .again c'=>c'.quiet=true∧codeAny (model prog w) A c' R s') (fun e s'=>R (.error e) s') s:=by
 have hn:es.size≤sizeLine:=fits_of_scanBound hz
 have hT:s.TypeIs (.ref a) "set":=⟨o,ha,hx.1⟩
 unfold Builtin.List.listExtendWith
 refine wpAny_bind (wpAny_typeOf (T:="set") hT ?_)
 have h1:Builtin.List.listSameRef (.ref L) (.ref a)=false:=by simp [Builtin.List.listSameRef,hne]
 have n1:(Value.type "set" == Value.type "list")=false:=by decide
 have n2:(Value.type "set" == Value.type "tuple")=false:=by decide
 simp only [h1,n1,n2,Bool.or_false,Bool.false_eq_true,if_false]
 refine wpAny_bind (Yo (A:=A.in1) hh ha hx hd hf hz I fun h1 d it fp vs St hp hk hfp hit W st=>?_)
 have hLlt:L<s.heap.objs.size:=Heap.lt_size hL
 have hLf:L ∉ fp:=fun z=>(hfp L z).elim hne fun y=>absurd hLlt (Nat.not_lt.mpr y)
 have hvl:vs.length=es.size:=by rw [hp.length_eq,List.length_map,Array.length_toList]
 have key:∀ (h:Heap) (c₁ tk:Nat),St 0 h→(∀ b o,b≠L→s.heap.get? b=some o→h.get? b=some o)→h.get? L=some { cls:=.type "list",data:=.seq #[] c₁ } →
   codeAny (model prog w) A (.builtin "list.extend.loop" ⟨[.ref L,.ref it,res],[]⟩) R { s with heap:=h,drawn:=d,toks:=tk }:=fun h c₁ tk st hk2 hL2=>by
  refine codeAny_extend_loopS W.toS hn L hLf res es.size 0 _ #[] c₁ rfl (Nat.zero_le _) st hL2 (ItemsOf.nil _) fun s' acc c' m hL3 hacc=>?_
  rw [Moved.eq_with m]
  refine q s'.heap d s'.toks acc c' (fun b o' hb e=>m.heap b o' (fun z=>?_) (hk2 b o' hb e)) hL3 ?_
  ·rcases List.mem_cons.mp z with y | y
   ·exact hb y
   ·exact absurd (Heap.lt_size e) (Nat.not_lt.mpr (by rw [List.mem_singleton.mp y];exact hit))
  ·have:acc.toList=vs:=by
    refine List.ext_getElem? fun i=>?_
    rw [Array.getElem?_toList]
    by_cases e:i<es.size
    ·have hi:i<acc.size:=by rw [hacc.1];exact e
     rw [Array.getElem?_eq_getElem hi,hacc.2 i _ (Array.getElem?_eq_getElem hi)]
    ·rw [Array.getElem?_eq_none (by rw [hacc.1];omega),List.getElem?_eq_none (by omega)]
   rw [this];exact hp
 have hL1:=hk L _ hL
 refine wpAny_bind (wpAny_holding (Yi (s:={ s with heap:=h1,drawn:=d }) (show Shared.TypeIs { s with heap:=h1,drawn:=d } (.ref a) "set" from ⟨o,hk a o ha,hx.1⟩) ?_))
 refine wpAny_ite_split (fun _=>?_) (fun _=>wpAny_pure ⟨plainId_quiet PySem.F.plain_extend_loop _,key _ c _ st (fun b o' _ e=>hk b o' e) hL1⟩)
 refine wpAny_bind (wpAny_rule (wpAny_bind ?_))
 refine (show wpAny _ _ (updateSeq L (·.push .none) >>= fun _=>updateSeq L (·.pop)) _ _ _ from wpAny_bind (wpAny_updateSeq hL1 rfl ?_))
 have hL2:=Heap.get?_update_self (Obj.mapSeq (·.push Value.none)) hL1 rfl
 refine wpAny_updateSeq (hz:=by seq_fits) hL2 rfl ?_
 have hL3:=Heap.get?_update_self (Obj.mapSeq (·.pop)) hL2 rfl
 refine wpAny_pure ⟨plainId_quiet PySem.F.plain_extend_loop _,key _ _ _ (W.frame 0 _ _ st fun b hb o' e=>?_) (fun b o' hb e=>?_) hL3⟩
 ·have hbL:b≠L:=fun z=>hLf (z ▸ hb)
  exact (Heap.get?_update_other _ _ (Ne.symm hbL)).trans ((Heap.get?_update_other _ _ (Ne.symm hbL)).trans e)
 ·exact (Heap.get?_update_other _ _ (Ne.symm hb)).trans ((Heap.get?_update_other _ _ (Ne.symm hb)).trans (hk b o' e))
theorem NQ {R:List Value→Shared→Prop} (hh:A.handled=none) {a:Addr} {o:Obj} {es:Array (Int×Value)} {t:SetTable} {ep:Nat} (ha:s.heap.get? a=some o) (hx:o.ExactSet) (hd:o.data=.set es ep t) (hf:t.fits es.size=true) (hz:es.size<scanBound) (I:TI (bo w) t)
  (q:∀ (h':Heap) (d:Drawn) (tk:Nat) (us:List Value),(∀ b o,s.heap.get? b=some o→h'.get? b=some o)→s.heap.objs.size<h'.objs.size→us.Perm (es.toList.map (·.2))→R us { s with heap:=h',drawn:=d,toks:=tk }):wpAny (model prog w) A (collect (.ref a)) R E s:=by
 have hlt:a<s.heap.objs.size:=Heap.lt_size ha
 unfold collect
 refine wpAny_bind (wpAny_runValue (codeAny_builtin entry_proto_collect' ?_))
 rw [Around.under_plainId PySem.F.plain_proto_collect _]
 refine (show wpAny _ A.in1 (newList [] >>= fun l=>again (.builtin "list.__iadd__" ⟨[l,.ref a],[]⟩)) _ _ s from wpAny_bind (wpAny_newObj_type ?_))
 refine wpAny_pure ⟨plainId_quiet PySem.F.plain_list_iadd _,codeAny_builtin entry_list_iadd' ?_⟩
 rw [Around.under_plainId PySem.F.plain_list_iadd _]
 have hL:(s.heap.push { cls:=.type "list",data:=.seq ([]:List Value).toArray }).get? s.heap.objs.size=some { cls:=.type "list",data:=.seq #[] 0 }:=Heap.get?_push_size _ rfl
 have key:=Qe (A:=A) (w:=w) (prog:=prog) (s:={ s with heap:=s.heap.push { cls:=.type "list",data:=.seq ([]:List Value).toArray } }) (L:=s.heap.objs.size)
  (R:=fun (r:Result) (s':Shared)=>∃ (h':Heap) (d:Drawn) (tk:Nat) (acc:Array Value) (c':Nat),r=.ok (.ret (.ref s.heap.objs.size))∧s' = { s with heap:=h',drawn:=d,toks:=tk }∧(∀ b o,s.heap.get? b=some o→h'.get? b=some o)∧h'.get? s.heap.objs.size=some { cls:=.type "list",dict:=none,data:=.seq acc c',slots:=#[] }∧acc.toList.Perm (es.toList.map (·.2)))
  hh (.ref s.heap.objs.size) (Heap.get?_push_of_some _ ha) hx hd hf hz I (Nat.ne_of_gt hlt) hL fun h' d tk acc c' hk hL2 hp=>⟨h',d,tk,acc,c',rfl,rfl,fun b o' e=>hk b o' (Nat.ne_of_lt (Heap.lt_size e)) (Heap.get?_push_of_some _ e),hL2,hp⟩
 refine (show wpAny _ A.in1 (Builtin.List.listExtendWith (.ref s.heap.objs.size) (.ref a) (.ref s.heap.objs.size)) _ _ _ from wpAny_mono key (fun fin s' x=>?_) fun e s' x=>?_)
 ·cases fin with
  | done f =>
   obtain ⟨h',d,tk,acc,c',e,rfl,hk,hL2,hp⟩:=x
   cases e
   exact (show wpAny _ A (load s.heap.objs.size >>= _) _ _ _ from wpAny_bind (wpAny_load hL2 (wpAny_pure (q h' d tk _ hk (Heap.lt_size hL2) hp))))
  | again c₁ =>
   refine ⟨x.1,codeAny_mono x.2 fun r s₂ y=>?_⟩
   obtain ⟨h',d,tk,acc,c',rfl,rfl,hk,hL2,hp⟩:=y
   exact (show wpAny _ A (load s.heap.objs.size >>= _) _ _ _ from wpAny_bind (wpAny_load hL2 (wpAny_pure (q h' d tk _ hk (Heap.lt_size hL2) hp))))
 ·obtain ⟨_,_,_,_,_,e',_⟩:=x
  cases e'
end
end SD
namespace SD
open PySem PyProof.Rows
theorem Fb {l:List Int} {k:Int}:l.any (· == k)=true ↔ k∈l:=by
 rw [List.any_eq_true]
 exact ⟨fun ⟨x,h1,h2⟩=>by rw [←eq_of_beq h2];exact h1,fun h=>⟨k,h,beq_self_eq_true k⟩⟩
theorem Qf (val:Nat→Int):∀ i,(firstMet val i).Nodup
 | 0=>List.nodup_nil
 | i+1=>by
  rw [firstMet_succ]
  unfold step_dedup
  split
  ·exact Qf val i
  ·rename_i h
   refine List.nodup_append.mpr ⟨Qf val i,by simp,fun a ha b hb e=>?_⟩
   rw [List.mem_singleton.mp hb] at e
   exact h (Fb.mpr (e ▸ ha))
theorem ZQ (ns:List Int) (k:Int):k∈firstMet (fun i=>ns.getD i 0) ns.length ↔ k∈ns:=by
 rw [←Fb,firstMet_any,Fb]
 have:(List.range ns.length).map (fun i=>ns.getD i 0)=ns:=by
  refine List.ext_getElem? fun i=>?_
  rw [List.getElem?_map]
  by_cases h:i<ns.length
  ·rw [List.getElem?_range h,List.getElem?_eq_getElem h]
   simp [List.getD_eq_getElem?_getD,List.getElem?_eq_getElem h]
  ·rw [List.getElem?_eq_none (by rw [List.length_range];omega),List.getElem?_eq_none (by omega)];rfl
 rw [this]
theorem JM:∀ {l m:List Int},l.Nodup→(∀ x∈l,x∈m)→m.length≤l.length→m.Perm l
 | [],m,_,_,h=>by
  obtain rfl:m=[]:=List.eq_nil_of_length_eq_zero (by simpa using h)
  exact List.Perm.refl _
 | x::r,m,nd,hs,h=>by
  rw [List.nodup_cons] at nd
  have hx:=hs x List.mem_cons_self
  refine (List.perm_cons_erase hx).trans (List.Perm.cons x ?_)
  refine JM nd.2 (fun y hy=>(List.mem_erase_of_ne fun z:y=x=>nd.1 (z ▸ hy)).mpr (hs y (List.mem_cons_of_mem _ hy))) ?_
  rw [List.length_erase_of_mem hx]
  rw [List.length_cons] at h
  omega
end SD
namespace L2
open PySem PySem.Spec PyProof.Rows
def ZR (P:Program) (w:World) (a:Addr) (ms:List Int):HO:=.ext fun h=>SD.qR P w h a (fun j=>ms.any (· == j)) ms.length (SD.bo w)
section
variable {X:Cx} {pins:List (Addr×Obj)} {σ:St} {H:Hp} {s:Shared}
theorem Inv.Yq (I:Inv X pins σ H s) (d:Drawn):Inv X pins σ H { s with drawn:=d }:=⟨I.ok,I.os,I.bare,I.base,I.loc,I.cell,I.free,I.freeC,I.pin,I.hok,I.len⟩
def Yr (P:Program) (w:World) (K:PySem.W.Frag):List V→Hp→VK→Prop:=fun xs H Q=>∃ (p:Addr) (ns:List Int),xs=[.ref p]∧SqL K H p (ns.map V.int)∧ns.length≤4000∧∀ (a:Addr) (ms:List Int),H a=none→ms.Nodup→(∀ k,k∈ms ↔ k∈ns)→Q (.ref a) (upd H a (ZR P w a ms))
theorem U0 (hc:X.calm=true):CallR X (.type "set") (Yr X.prog X.w X.K):=by
 intro pins s σ H xs us Q I r h
 obtain ⟨p,ns,rfl,hq,hl,q⟩:=h
 obtain ⟨u,rfl,rx⟩:=vals1 r
 cases rx
 obtain ⟨its,rv,pl,hz⟩:=I.list hq
 have hi:IntsAre its ns:=intsAre_of rv
 have hil:its.length=ns.length:=IntsAre.length hi
 refine SD.abQ (I.ok.hd hc) pl.isList (by simpa using hi) (by rw [List.size_toArray,hil];unfold scanBound;omega) fun h' tk S hk=>?_
 rw [show its.toArray.size=ns.length by rw [List.size_toArray,hil]] at S
 have S':SD.qR X.prog X.w h' s.heap.objs.size (fun j=>(firstMet (fun i=>ns.getD i 0) ns.length).any (· == j)) (firstMet (fun i=>ns.getD i 0) ns.length).length (SD.bo X.w):=S
 refine ⟨.ref s.heap.objs.size,_,I.laid (t':=tk) (o:=ZR X.prog X.w s.heap.objs.size (firstMet (fun i=>ns.getD i 0) ns.length)) (fun b o e=>hk b o (Heap.lt_size e) e) (Nat.le_refl _) ?_,rfl,q _ _ (I.hok.fresh (Nat.le_refl _)) (SD.Qf _ _) (SD.ZQ ns)⟩
 obtain ⟨o,_,_,_,e,_⟩:=id S'
 exact ⟨S',⟨o,e⟩,fun h1 h2 x k=>SD.qR.at x k⟩
def Ys (P:Program) (w:World):List V→Hp→VK→Prop:=fun xs H Q=>∃ (a:Addr) (ms:List Int),xs=[.ref a]∧H a=some (ZR P w a ms)∧ms.Nodup∧ms.length<128∧∀ (out:List Int) (l:Addr),out.Perm ms→out.Pairwise (· < ·)→H l=none→Q (.ref l) (upd H l (.lst (out.map V.int)))
theorem TJ:∀ (us:List Value),(∀ v∈us,∃ t,v=.int (SR.nI v) t)→Vals ((us.map SR.nI).map V.int) us
 | [],_=>.nil
 | v::r,h=>.cons (h v List.mem_cons_self) (TJ r fun u hu=>h u (List.mem_cons_of_mem _ hu))
theorem Qg (hc:X.calm=true) (hu:X.A.units+2<cLine):CallR X (.builtin "sorted") (Ys X.prog X.w):=by
 intro pins s σ H xs us Q I r h
 obtain ⟨a,ms,rfl,hH,nd,hz,q⟩:=h
 obtain ⟨u,rfl,rx⟩:=vals1 r
 cases rx
 obtain ⟨S,_,_⟩:=(show ObjOk X.prog X.w H s.heap a (ZR X.prog X.w a ms) from I.hok a _ hH)
 obtain ⟨o,es,ep,t,ho,hx,hd,hel,hm,hes,hf,hn,TT⟩:=S
 refine Calls.call_function_entry kind_sorted plain_sorted entry_sorted (args_sorted1 _) ?_
 unfold Builtin.«sorted»
 refine wpAny_bind (m:=checkCount "sorted" 1 1 _) (wpAny_pure (wpAny_bind (SD.NQ (A:=X.A.in1) (show X.A.in1.handled=none from I.ok.hd hc) ho hx hd hf hes TT fun h' d tk us hk hle hp=>?_)))
 have hlen:us.length=ms.length:=by rw [hp.length_eq,List.length_map,Array.length_toList];exact hn
 have hint:∀ v∈us,∃ t,v=.int (SR.nI v) t:=fun v hv=>by
  obtain ⟨e,he,rfl⟩:=List.mem_map.mp (hp.mem_iff.mp hv)
  obtain ⟨⟨k,hk,_⟩,_⟩:=hel e he
  obtain ⟨t,e2⟩:=Value.isInt_shape (show Value.isInt k e.2=true from hk)
  rw [e2];exact ⟨t,rfl⟩
 have pm:(us.map SR.nI).Perm ms:=by
  refine SD.JM nd (fun k hk2=>?_) (by rw [List.length_map,hlen];exact Nat.le_refl _)
  obtain ⟨e,he,hk3⟩:=(hm k).mp (SD.Fb.mpr hk2)
  obtain ⟨t,e2⟩:=Value.isInt_shape (show Value.isInt k e.2=true from hk3)
  exact List.mem_map.mpr ⟨e.2,hp.mem_iff.mpr (List.mem_map_of_mem he),by rw [e2];rfl⟩
 have nd2:(us.map SR.nI).Nodup:=pm.nodup_iff.mpr nd
 have g:(h'.push (seqObj "list" us.toArray 0)).get? h'.objs.size=some (seqObj "list" us.toArray 0):=Heap.get?_push_size _ rfl
 refine wpAny_bind (wpAny_newList ?_ (by rw [sizeLine_eq];omega))
 refine wpAny_bind (wpAny_holding (wpAny_call_entry slot_list_sort (show Shared.TypeIs { s with heap:=h'.push (seqObj "list" us.toArray 0),drawn:=d,toks:=tk } (.ref h'.objs.size) "list" from ⟨_,g,rfl⟩) entry_list_sort (SR.UW (by show X.A.units+1+1<cLine;omega) g hint nd2 (by omega) fun out h1 h2=>⟨_,rfl,wpAny_pure ⟨_,rfl,?_⟩⟩) (args_list_sort _)))
 obtain ⟨c,hc2⟩:=sortedHeap_at (out:=out.toArray) g
 have keep:∀ b o,s.heap.get? b=some o→(sortedHeap (h'.push (seqObj "list" us.toArray 0)) h'.objs.size us out.toArray).get? b=some o:=fun b o' e=>by
  have e2:=hk b o' e
  have hb:=Heap.lt_size e2
  rw [sortedHeap_old (Nat.ne_of_lt hb) (by rw [size_push'];exact Nat.lt_succ_of_lt hb)]
  exact Heap.get?_push_of_some _ e2
 have ac4:∀ v∈out,∃ t,v=.int (SR.nI v) t:=fun v hv=>hint v (h1.mem_iff.mp hv)
 have fr:H h'.objs.size=none:=I.hok.fresh (Nat.le_of_lt hle)
 refine ⟨.ref h'.objs.size,_,((I.laid (t':=tk) (o:=.lst ((out.map SR.nI).map V.int)) keep (Nat.le_of_lt hle) ⟨?_,out,c,TJ out ac4,hc2⟩).Yq d),rfl,q _ _ ((h1.map _).trans pm) (List.pairwise_map.mpr h2) fr⟩
 rw [List.length_map,List.length_map,h1.length_eq,sizeLine_eq];omega
end
end L2
namespace L2
open PySem PySem.Spec PyProof.Rows
theorem U3 {X:Cx} {K:PySem.W.Frag} (h:X.K=K) (hc:X.calm=true):CallR X (.type "set") (Yr X.prog X.w K):=by subst h;exact U0 hc
theorem Qh {P P':Program} {w w':World} {K:PySem.W.Frag} {p:Addr} {H:Hp} {Q:VK} {ns:List Int} (hP:P' = P) (hw:w' = w) (hS:SqL K H p (ns.map V.int)) (hl:ns.length≤4000) (few:∀ ms:List Int,ms.Nodup→(∀ k,k∈ms→k∈ns)→ms.length<128)
  (q:∀ (out:List Int) (l:Addr) (H2:Hp),out.Pairwise (· < ·)→(∀ k,k∈out ↔ k∈ns)→H l=none→H2 l=some (.lst (out.map V.int))→Same H H2→Q (.ref l) H2):Yr P w K [.ref p] H (fun x H1=>Ys P' w' [x] H1 Q):=by
 subst hP hw
 refine ⟨p,ns,rfl,hS,hl,fun a ms ha nd hm=>⟨a,ms,rfl,upd_same,nd,few ms nd fun k hk=>(hm k).mp hk,fun out l hp hs hl2=>?_⟩⟩
 have hla:l≠a:=fun z=>by rw [z,upd_same] at hl2;cases hl2
 have hl0:H l=none:=by rw [upd_ne hla] at hl2;exact hl2
 exact q out l _ hs (fun k=>hp.mem_iff.trans (hm k)) hl0 upd_same ((Same.new ha).trans (Same.new hl2))
end L2
namespace L2
open PySem PySem.Spec PyProof.Rows
section
variable {X:Cx}
end
end L2
set_option maxHeartbeats 4000000
local macro_rules | `(tactic| walk_at "wp")=>`(tactic| (try simp only [L2.Te,L2.R5,L2.R6,L2.R7,L2.R8,L2.R9,L2.Sd,L2.Mt,L2.Sg,L2.W2,L2.W3,L2.Sh,L2.Sq,L2.Ss,L2.Mu,L2.Jj,L2.Jk,L2.Jl,L2.W6,L2.Xb,Option.isSome_none,Option.isSome_some,L2.Xe,L2.Sx,L2.Sy,L2.SJ,L2.Jr,L2.MP,L2.Js,L2.JH,L2.Ri,L2.Rj,L2.acE,L2.aag,L2.aah,L2.aai,L2.VR,L2.aaj,L2.V0,L2.V1,L2.V2,L2.V3,L2.V4,L2.V5,L2.Rk,L2.Rm,L2.V6,L2.V7,L2.Rn,L2.aak,L2.V8,L2.aal,L2.V9,L2.Ro,L2.Rq,L2.aam,L2.Wa,L2.Rr,L2.Wb,L2.Wc,L2.Rt,L2.Wd,L2.Ep,L2.Wf,L2.Ru,L2.Rv,L2.aan,L2.Wg,L2.Rw,L2.Wi,L2.Wj,L2.Wk,L2.aao,L2.Rx,L2.Ry,L2.Rz,L2.Mf,L2.RB,L2.RG,L2.RJ,L2.RK,L2.Mg,L2.aap,L2.aaq,L2.Jb,L2.RL,L2.Wm,L2.Wn,L2.RM,L2.Wo,L2.Jc,L2.RN,L2.RP,L2.Wq,L2.Mj,L2.Ml,L2.Je,L2.Wv,L2.RT,L2.VP,L2.Q9,L2.Ls,L2.IW,L2.Lw,L2.Rb,L2.Rc,L2.Rf,L2.LC,if_true,if_false,L2.Fi,L2.CP,L2.LK,L2.Rh,L2.LQ,L2.I9,L2.LR,List.map_cons,List.map_nil,List.length_cons,List.length_nil,List.cons_append,List.nil_append,List.append_nil,List.replicate,Nat.reduceAdd,Nat.reduceSub,List.set_cons_zero,List.set_cons_succ,Int.reduceLT,Int.reduceLE,Int.reduceNeg,Int.reducePow,Int.reduceToNat,Int.reduceAdd,Int.reduceMul,Int.toNat_natCast,Int.zero_add,true_and,and_true,Bool.not_true,Bool.not_false]))
local macro_rules | `(tactic| walk_at "cast")=>`(tactic| simp only [My.vI,Int.natCast_add,Int.natCast_mul,Int.natCast_emod,Int.natCast_ediv,Int.natCast_one,Int.natCast_succ,Nat.pow_succ,Int.natCast_pow,Int.cast_ofNat_Int])
local macro_rules | `(tactic| walk_at "wq")=>`(tactic| (try simp only [L2.Te,L2.R5,L2.R6,L2.R7,L2.R8,L2.R9,L2.Sd,L2.Mt,L2.Sg,L2.W2,L2.W3,L2.Sh,L2.Sq,L2.Ss,L2.Mu,L2.Jj,L2.Jk,L2.Jl,L2.W6,L2.Xb,Option.isSome_none,Option.isSome_some,L2.Xe,L2.Sx,L2.Sy,L2.SJ,L2.Jr,L2.MP,L2.Js,L2.JH,L2.Ri,L2.Rj,L2.acE,L2.aag,L2.aah,L2.aai,L2.VR,L2.aaj,L2.V0,L2.V1,L2.V2,L2.V3,L2.V4,L2.V5,L2.Rk,L2.Rm,L2.V6,L2.V7,L2.Rn,L2.aak,L2.V8,L2.aal,L2.V9,L2.Ro,L2.Rq,L2.aam,L2.Wa,L2.Rr,L2.Wb,L2.Wc,L2.Rt,L2.Wd,L2.Ep,L2.Wf,L2.Ru,L2.Rv,L2.aan,L2.Wg,L2.Rw,L2.Wi,L2.Wj,L2.Wk,L2.aao,L2.Rx,L2.Ry,L2.Rz,L2.Mf,L2.RB,L2.RG,L2.RJ,L2.RK,L2.Mg,L2.aap,L2.aaq,L2.Jb,L2.RL,L2.Wm,L2.Wn,L2.RM,L2.Wo,L2.Jc,L2.RN,L2.RP,L2.Wq,L2.Mj,L2.Ml,L2.Je,L2.Wv,L2.RT,L2.VP,L2.Q9,L2.Ls,L2.IW,L2.Lw,L2.Rb,L2.Rc,L2.Rf,L2.LC,if_true,if_false,L2.Fi,L2.CP,L2.LK,L2.Rh,L2.LQ,L2.I9,L2.LR,List.map_cons,List.map_nil,List.length_cons,List.length_nil,List.cons_append,List.nil_append,List.append_nil,Nat.reduceAdd,Nat.reduceSub,List.set_cons_zero,List.set_cons_succ,Int.reduceLT,Int.reduceLE,Int.reduceNeg,Int.reducePow,Int.reduceToNat,Int.reduceAdd,Int.reduceMul,Int.toNat_natCast,Int.zero_add,true_and,and_true,Bool.not_true,Bool.not_false]))
namespace My
open PySem PySem.Spec PyProof.Rows L2
def top (i:Nat):Stmt:=PySem.Challenge.pw_figurefall_k24_copies.main.body.getD i (.Pass ⟨0,0,0,0⟩)
structure Txt (mg:Str→Option Value):Prop where
 abR:mg "bool" = none
 vA:mg "enumerate" = none
 aaG:mg "int" = none
 aF:mg "isinstance" = none
 cF:mg "len" = none
 bW:mg "list" = none
 TQ:mg "min" = none
 cJ:mg "range" = none
 ac5:mg "set" = none
 NT:mg "sorted" = none
 ur:mg "str" = none
 ac6:mg "sum" = none
 cQ:mg "tuple" = none
 Kz:GI mg "LEAST_BASE" 2
 NZ:GI mg "MOST_BASE" 16
 KC:GI mg "MOST_BOOKS" 20
 KD:GI mg "MOST_BOUND" 451
 Ge:GI mg "MOST_COUNTED" 20
 N5:GI mg "MOST_FALL" 1000
 Gf:GI mg "MOST_FIGURES" 1001
 N6:GI mg "MOST_KEPT" 200
 zp:GI mg "MOST_ONE_BY_ONE" 3000
 Hz:GI mg "MOST_TARGET" 1000
 sH:GI mg "MOST_WORTH" 50
 iR:mg "counts_below_counts" = mg "counts_below"
 eE:mg "counts_one_by_one_counts" = mg "counts_one_by_one"
 dH:mg "ring_of_walks" = mg "ring_of"
 dg:mg "rings_of_walks" = mg "rings_of"
 lW:mg "spread_of_counts" = mg "spread_of"
 o7:mg "sums_to_leasts" = mg "sums_to"
 jD:mg "walk_of_walks" = mg "walk_of"
abbrev mD:Stmt:=top 67
def vB:{ s:Scope // defScope mD=s }:=by
 refine ⟨?_,?_⟩
 rotate_left
 ·conv=>lhs;whnf
noncomputable def Gg:{ b:List Stmt // defBody mD=b }:=by
 refine ⟨?_,?_⟩
 rotate_left
 ·conv=>lhs;whnf
theorem Gh:FnScope ["_law_found"] ["_law_found"] vB.1:=⟨rfl,rfl,rfl,by decide +kernel,rfl,by decide +kernel,by decide +kernel⟩
def HB (K:PySem.W.Frag):Sp:=fun vs H Q _=>∃ v:V,vs=[v]∧((∃ i:Int,v=.int i∧Q (.bl true) H)∨∃ t:String,Fe H v=some t∧(t = "str"∨t = "list"∨t = "tuple"∨t = "NoneType")∧Q (.bl false) H)
abbrev sI:Stmt:=top 72
def zq:{ s:Scope // defScope sI=s }:=by
 refine ⟨?_,?_⟩
 rotate_left
 ·conv=>lhs;whnf
noncomputable def KH:{ b:List Stmt // defBody sI=b }:=by
 refine ⟨?_,?_⟩
 rotate_left
 ·conv=>lhs;whnf
theorem zu:FnScope ["_law_found","_law_due","_law_k"] ["_law_found","_law_due"] zq.1:=⟨rfl,rfl,rfl,by decide +kernel,rfl,by decide +kernel,by decide +kernel⟩
def N7 (K:PySem.W.Frag):Sp:=fun vs H Q _=>∃ (a c:Addr) (xs ys:List Int),vs=[.ref a,.ref c]∧H a=some (.lst (xs.map V.int))∧bQ K H c (ys.map V.int)∧ys.length≤1000000∧Q (.bl (decide (xs=ys))) H
abbrev gC:Stmt:=inClass (top 65) 1
def o8:{ s:Scope // defScope gC=s }:=by
 refine ⟨?_,?_⟩
 rotate_left
 ·conv=>lhs;whnf
noncomputable def zA:{ b:List Stmt // defBody gC=b }:=by
 refine ⟨?_,?_⟩
 rotate_left
 ·conv=>lhs;whnf
theorem zB:FnScope ["self","name"] ["self","name"] o8.1:=⟨rfl,rfl,rfl,by decide +kernel,rfl,by decide +kernel,by decide +kernel⟩
def Bm (K:PySem.W.Frag):Sp:=fun vs H Q _=>∃ (h dx d b:Addr) (kvs:List (Key×V)) (nm:Str),vs=[.ref h,.str nm]∧H h=some (.ins (mq K "House") dx [("books",.ref d)])∧H d=some (.dK kvs)∧valV kvs (.inr nm)=some (.ref b)∧Q (.ref b) H
abbrev eF:Stmt:=inClass (top 65) 5
def lX:{ s:Scope // defScope eF=s }:=by
 refine ⟨?_,?_⟩
 rotate_left
 ·conv=>lhs;whnf
noncomputable def wN:{ b:List Stmt // defBody eF=b }:=by
 refine ⟨?_,?_⟩
 rotate_left
 ·conv=>lhs;whnf
theorem wO:FnScope ["self","name"] ["self","name"] lX.1:=⟨rfl,rfl,rfl,by decide +kernel,rfl,by decide +kernel,by decide +kernel⟩
def yc (K:PySem.W.Frag):Sp:=fun vs H Q _=>∃ (h dx d b bx wl tl:Addr) (kvs:List (Key×V)) (nm:Str) (ws:List Nat),vs=[.ref h,.str nm]∧H h=some (.ins (mq K "House") dx [("books",.ref d)])∧H d=some (.dK kvs)∧valV kvs (.inr nm)=some (.ref b)∧H b=some (.ins (mq K "Book") bx [("worths",.ref wl),("told",.ref tl)])∧H wl=some (.lst (ws.map vI))∧∀ (p:Addr) H',H p=none→H' p=some (.lst (ws.map vI))→Same H H'→Q (.ref p) H'
abbrev o9:Stmt:=top 73
def w5:{ s:Scope // defScope o9=s }:=by
 refine ⟨?_,?_⟩
 rotate_left
 ·conv=>lhs;whnf
noncomputable def HD:{ b:List Stmt // defBody o9=b }:=by
 refine ⟨?_,?_⟩
 rotate_left
 ·conv=>lhs;whnf
theorem gq:FnScope ["_law_row_here","_law_number","_law_total","_law_rest"] ["_law_row_here","_law_number"] w5.1:=⟨rfl,rfl,rfl,by decide +kernel,rfl,by decide +kernel,by decide +kernel⟩
def KJ (K:PySem.W.Frag):Sp:=fun vs H Q _=>∃ (a:Addr) (ws:List Nat) (n:Nat),vs=[.ref a,vI n]∧bQ K H a (ws.map vI)∧2≤ws.length∧ws.length≤16∧Q (vI (fall ws n)) H
abbrev mF:Stmt:=top 74
def vC:{ s:Scope // defScope mF=s }:=by
 refine ⟨?_,?_⟩
 rotate_left
 ·conv=>lhs;whnf
noncomputable def Gi:{ b:List Stmt // defBody mF=b }:=by
 refine ⟨?_,?_⟩
 rotate_left
 ·conv=>lhs;whnf
theorem bO:FnScope ["_law_row_here","_law_top","_law_homes_here","_law_first","_law_path","_law_stood","_law_here","_law_low","_law_one"] ["_law_row_here","_law_top"] vC.1:=⟨rfl,rfl,rfl,by decide +kernel,rfl,by decide +kernel,by decide +kernel⟩
def HF (K:PySem.W.Frag):Sp:=fun vs H Q _=>∃ (a:Addr) (ws:List Nat) (tp:Nat),vs=[.ref a,vI tp]∧bQ K H a (ws.map vI)∧Bk ws∧tp≤5000∧∀ (d:Addr) (ps:List (Nat×V)) H',H d=none→H' d=some (.dK (wC ps))→SM ws tp tp ps→Same H H'→Q (.ref d) H'
abbrev jU:Stmt:=top 75
def uw:{ s:Scope // defScope jU=s }:=by
 refine ⟨?_,?_⟩
 rotate_left
 ·conv=>lhs;whnf
noncomputable def Du:{ b:List Stmt // defBody jU=b }:=by
 refine ⟨?_,?_⟩
 rotate_left
 ·conv=>lhs;whnf
theorem ux:FnScope ["_law_row_here","_law_homes_here"] ["_law_row_here"] uw.1:=⟨rfl,rfl,rfl,by decide +kernel,rfl,by decide +kernel,by decide +kernel⟩
def Gj (K:PySem.W.Frag):Sp:=fun vs H Q _=>∃ (a:Addr) (ws:List Nat),vs=[.ref a]∧bQ K H a (ws.map vI)∧Bk ws∧∀ (l:Addr) H',H l=none→H' l=some (.lst ((cH ws).map vI))→Same H H'→Q (.ref l) H'
abbrev jV:Stmt:=top 76
def uy:{ s:Scope // defScope jV=s }:=by
 refine ⟨?_,?_⟩
 rotate_left
 ·conv=>lhs;whnf
noncomputable def Dv:{ b:List Stmt // defBody jV=b }:=by
 refine ⟨?_,?_⟩
 rotate_left
 ·conv=>lhs;whnf
theorem kI:FnScope ["_law_found","_law_firsts_here","_law_ring"] ["_law_found"] uy.1:=⟨rfl,rfl,rfl,by decide +kernel,rfl,by decide +kernel,by decide +kernel⟩
def Gk (K:PySem.W.Frag):Sp:=fun vs H Q _=>∃ (l:Addr) (out:List (Addr×List Int)),vs=[.ref l]∧H l=some (.lst (out.map fun p=>V.ref p.1))∧(∀ p∈out,p.2≠[]∧H p.1=some (.lst (p.2.map V.int)))∧out.length<128∧∀ (q:Addr) H',H q=none→H' q=some (.lst (out.map fun p=>V.int (p.2.headD 0)))→Same H H'→Q (.ref q) H'
abbrev fO:Stmt:=top 77
def iT:{ s:Scope // defScope fO=s }:=by
 refine ⟨?_,?_⟩
 rotate_left
 ·conv=>lhs;whnf
noncomputable def nF:{ b:List Stmt // defBody fO=b }:=by
 refine ⟨?_,?_⟩
 rotate_left
 ·conv=>lhs;whnf
theorem dI:FnScope ["_law_one","_law_other","_law_k"] ["_law_one","_law_other"] iT.1:=⟨rfl,rfl,rfl,by decide +kernel,rfl,by decide +kernel,by decide +kernel⟩
def Bo (K:PySem.W.Frag):Sp:=fun vs H Q _=>∃ (v:V),vs=[v,v]∧lV v=true∧Q (.bl true) H
def Bp (K:PySem.W.Frag):Sp:=fun vs H Q _=>∃ (v w:V) (c:Ct 1),vs=[v,w]∧Rp (fun _=>True) 1 H v c∧Rp (fun _=>True) 1 H w c∧∀ H',Same H H'→Q (.bl true) H'
def Bq (K:PySem.W.Frag):Sp:=fun vs H Q _=>∃ (v w:V) (c:Ct 2),vs=[v,w]∧Rp (fun _=>True) 2 H v c∧Rp (fun _=>True) 2 H w c∧∀ H',Same H H'→Q (.bl true) H'
abbrev fQ:Stmt:=top 79
def iU:{ s:Scope // defScope fQ=s }:=by
 refine ⟨?_,?_⟩
 rotate_left
 ·conv=>lhs;whnf
noncomputable def nG:{ b:List Stmt // defBody fQ=b }:=by
 refine ⟨?_,?_⟩
 rotate_left
 ·conv=>lhs;whnf
theorem cj:FnScope ["_law_found","_law_one","_law_k"] ["_law_found"] iU.1:=⟨rfl,rfl,rfl,by decide +kernel,rfl,by decide +kernel,by decide +kernel⟩
def Br (K:PySem.W.Frag):Sp:=fun vs H Q _=>∃ (v:V),vs=[v]∧lV v=true∧∀ H',Same H H'→Q (.bl true) H'
def Bs (K:PySem.W.Frag):Sp:=fun vs H Q _=>∃ (P:Addr→Prop) (m:Nat) (v:V),vs=[v]∧Sp1 P m H v∧m≤200000∧∀ H',(∀ c o,(v≠.ref c∨∃ xs,o=.tup xs)→H c=some o→H' c=some o)→(∀ c q,PK q H c→PK (q+1) H' c)→Q (.bl true) H'
def qT (K:PySem.W.Frag):Sp:=fun vs H Q _=>∃ (P:Addr→Prop) (v:V),vs=[v]∧Sp2 P 60000 H v∧∀ H',wY P H H'→Q (.bl true) H'
abbrev iC:Stmt:=top 78
def jW:{ s:Scope // defScope iC=s }:=by
 refine ⟨?_,?_⟩
 rotate_left
 ·conv=>lhs;whnf
noncomputable def pW:{ b:List Stmt // defBody iC=b }:=by
 refine ⟨?_,?_⟩
 rotate_left
 ·conv=>lhs;whnf
theorem pX:FnScope ["_law_found"] ["_law_found"] jW.1:=⟨rfl,rfl,rfl,by decide +kernel,rfl,by decide +kernel,by decide +kernel⟩
def Dw (K:PySem.W.Frag):Sp:=fun vs H Q _=>∃ (v:V),vs=[v]∧lV v=true∧Q v H
def Dy (K:PySem.W.Frag):Sp:=fun vs H Q _=>∃ (v:V) (c:Ct 1),vs=[v]∧Rp (fun _=>True) 1 H v c∧∀ w H',Same H H'→Rp (fun a=>H a=none) 1 H' w c→Q w H'
def uz (K:PySem.W.Frag):Sp:=fun vs H Q _=>∃ (v:V) (c:Ct 2),vs=[v]∧Rp (fun _=>True) 2 H v c∧∀ w H',Same H H'→Rp (fun a=>H a=none) 2 H' w c→Q w H'
abbrev mH:Stmt:=top 57
def vD:{ s:Scope // defScope mH=s }:=by
 refine ⟨?_,?_⟩
 rotate_left
 ·conv=>lhs;whnf
noncomputable def Gm:{ b:List Stmt // defBody mH=b }:=by
 refine ⟨?_,?_⟩
 rotate_left
 ·conv=>lhs;whnf
theorem nH:FnScope ["table","worths","total","tried","found"] ["table","worths","total"] vD.1:=⟨rfl,rfl,rfl,by decide +kernel,rfl,by decide +kernel,by decide +kernel⟩
def HJ (K:PySem.W.Frag):Sp:=fun vs H Q _=>∃ (t a:Addr) (ws:List Nat) (T:List (Option Nat)) (s:Nat),vs=[.ref t,.ref a,vI s]∧bQ K H a (ws.map vI)∧ws.length≤16∧H t=some (.lst (T.map oV))∧T.length=s∧∀ H',Same H H'→Q (oV (nxt ws T s)) H'
abbrev sJ:Stmt:=top 58
def zE:{ s:Scope // defScope sJ=s }:=by
 refine ⟨?_,?_⟩
 rotate_left
 ·conv=>lhs;whnf
noncomputable def KN:{ b:List Stmt // defBody sJ=b }:=by
 refine ⟨?_,?_⟩
 rotate_left
 ·conv=>lhs;whnf
theorem sO:FnScope ["worths","target","table","total"] ["worths","target"] zE.1:=⟨rfl,rfl,rfl,by decide +kernel,rfl,by decide +kernel,by decide +kernel⟩
def N8 (K:PySem.W.Frag):Sp:=fun vs H Q _=>∃ (a:Addr) (ws:List Nat) (t:Nat),vs=[.ref a,vI t]∧bQ K H a (ws.map vI)∧ws.length≤16∧t≤1000∧∀ p H',H p=none→H' p=some (.lst ((Fx ws t).map oV))→Same H H'→Q (.ref p) H'
abbrev iV:Stmt:=top 44
def qU:{ s:Scope // defScope iV=s }:=by
 refine ⟨?_,?_⟩
 rotate_left
 ·conv=>lhs;whnf
noncomputable def Bt:{ b:List Stmt // defBody iV=b }:=by
 refine ⟨?_,?_⟩
 rotate_left
 ·conv=>lhs;whnf
theorem Bu:FnScope ["target"] ["target"] qU.1:=⟨rfl,rfl,rfl,by decide +kernel,rfl,by decide +kernel,by decide +kernel⟩
def Dz (K:PySem.W.Frag):Sp:=fun vs H Q _=>∃ t:Nat,vs=[vI t]∧t≤1000∧Q .non H
abbrev jX:Stmt:=top 23
def uD:{ s:Scope // defScope jX=s }:=by
 refine ⟨?_,?_⟩
 rotate_left
 ·conv=>lhs;whnf
noncomputable def DG:{ b:List Stmt // defBody jX=b }:=by
 refine ⟨?_,?_⟩
 rotate_left
 ·conv=>lhs;whnf
theorem DK:FnScope ["worth"] ["worth"] uD.1:=⟨rfl,rfl,rfl,by decide +kernel,rfl,by decide +kernel,by decide +kernel⟩
def Gn (K:PySem.W.Frag):Sp:=fun vs H Q _=>∃ w:Nat,vs=[vI w]∧w≤50∧Q .non H
abbrev mJ:Stmt:=top 16
def vG:{ s:Scope // defScope mJ=s }:=by
 refine ⟨?_,?_⟩
 rotate_left
 ·conv=>lhs;whnf
noncomputable def Gp:{ b:List Stmt // defBody mJ=b }:=by
 refine ⟨?_,?_⟩
 rotate_left
 ·conv=>lhs;whnf
theorem Gq:FnScope ["base"] ["base"] vG.1:=⟨rfl,rfl,rfl,by decide +kernel,rfl,by decide +kernel,by decide +kernel⟩
def HN (K:PySem.W.Frag):Sp:=fun vs H Q _=>∃ b:Nat,vs=[vI b]∧2≤b∧b≤16∧Q .non H
abbrev iW:Stmt:=top 24
def qW:{ s:Scope // defScope iW=s }:=by
 refine ⟨?_,?_⟩
 rotate_left
 ·conv=>lhs;whnf
noncomputable def Bv:{ b:List Stmt // defBody iW=b }:=by
 refine ⟨?_,?_⟩
 rotate_left
 ·conv=>lhs;whnf
theorem qX:FnScope ["worths","worth"] ["worths"] qW.1:=⟨rfl,rfl,rfl,by decide +kernel,rfl,by decide +kernel,by decide +kernel⟩
def DN (K:PySem.W.Frag):Sp:=fun vs H Q _=>∃ (a:Addr) (ws:List Nat),vs=[.ref a]∧bQ K H a (ws.map vI)∧2≤ws.length∧ws.length≤16∧(∀ x∈ws,x≤50)∧Q .non H
abbrev wJ:Stmt:=top 59
def Dd:{ s:Scope // defScope wJ=s }:=by
 refine ⟨?_,?_⟩
 rotate_left
 ·conv=>lhs;whnf
noncomputable def Oa:{ b:List Stmt // defBody wJ=b }:=by
 refine ⟨?_,?_⟩
 rotate_left
 ·conv=>lhs;whnf
theorem Ob:FnScope ["worths","target"] ["worths","target"] Dd.1:=⟨rfl,rfl,rfl,by decide +kernel,rfl,by decide +kernel,by decide +kernel⟩
def Qi (K:PySem.W.Frag):Sp:=fun vs H Q _=>∃ (a:Addr) (ws:List Nat) (t:Nat),vs=[.ref a,vI t]∧bQ K H a (ws.map vI)∧2≤ws.length∧ws.length≤16∧(∀ x∈ws,x≤50)∧t≤1000∧∀ p H',H p=none→H' p=some (.lst ((Fx ws t).map oV))→Same H H'→Q (.ref p) H'
abbrev mK:Stmt:=top 46
def vH:{ s:Scope // defScope mK=s }:=by
 refine ⟨?_,?_⟩
 rotate_left
 ·conv=>lhs;whnf
noncomputable def Gr:{ b:List Stmt // defBody mK=b }:=by
 refine ⟨?_,?_⟩
 rotate_left
 ·conv=>lhs;whnf
theorem fB:FnScope ["tally","worths","longer","total","many","worth"] ["tally","worths"] vH.1:=⟨rfl,rfl,rfl,by decide +kernel,rfl,by decide +kernel,by decide +kernel⟩
def HS (K:PySem.W.Frag):Sp:=fun vs H Q _=>∃ (t a:Addr) (tl ws:List Nat),vs=[.ref t,.ref a]∧H t=some (.lst (tl.map vI))∧bQ K H a (ws.map vI)∧tl.length≤2000∧(∀ x∈ws,x≤50)∧∀ p H',H p=none→H' p=some (.lst ((tab (tl.length+50) (sh (fun i=>tl.getD i 0) ws)).map vI))→Same H H'→Q (.ref p) H'
abbrev zF:Stmt:=top 53
def Gs:{ s:Scope // defScope zF=s }:=by
 refine ⟨?_,?_⟩
 rotate_left
 ·conv=>lhs;whnf
noncomputable def Qj:{ b:List Stmt // defBody zF=b }:=by
 refine ⟨?_,?_⟩
 rotate_left
 ·conv=>lhs;whnf
theorem nJ:FnScope ["worths","length","firsts","tally","place"] ["worths","length"] Gs.1:=⟨rfl,rfl,rfl,by decide +kernel,rfl,by decide +kernel,by decide +kernel⟩
def U4 (K:PySem.W.Frag):Sp:=fun vs H Q _=>∃ (a:Addr) (ws:List Nat) (n:Nat),vs=[.ref a,vI n]∧bQ K H a (ws.map vI)∧2≤ws.length∧(∀ x∈ws,x≤50)∧1≤n∧n≤20∧∀ p H',H p=none→H' p=some (.lst ((tab (50*n+1) (spd ws n)).map vI))→Same H H'→Q (.ref p) H'
abbrev iY:Stmt:=top 43
def qY:{ s:Scope // defScope iY=s }:=by
 refine ⟨?_,?_⟩
 rotate_left
 ·conv=>lhs;whnf
noncomputable def Bw:{ b:List Stmt // defBody iY=b }:=by
 refine ⟨?_,?_⟩
 rotate_left
 ·conv=>lhs;whnf
theorem Bx:FnScope ["length"] ["length"] qY.1:=⟨rfl,rfl,rfl,by decide +kernel,rfl,by decide +kernel,by decide +kernel⟩
def DP (K:PySem.W.Frag):Sp:=fun vs H Q _=>∃ t:Nat,vs=[vI t]∧1≤t∧t≤20∧Q .non H
abbrev pq:Stmt:=top 54
def w6:{ s:Scope // defScope pq=s }:=by
 refine ⟨?_,?_⟩
 rotate_left
 ·conv=>lhs;whnf
noncomputable def HW:{ b:List Stmt // defBody pq=b }:=by
 refine ⟨?_,?_⟩
 rotate_left
 ·conv=>lhs;whnf
theorem HX:FnScope ["worths","length"] ["worths","length"] w6.1:=⟨rfl,rfl,rfl,by decide +kernel,rfl,by decide +kernel,by decide +kernel⟩
def KQ (K:PySem.W.Frag):Sp:=fun vs H Q _=>∃ (a:Addr) (ws:List Nat) (n:Nat),vs=[.ref a,vI n]∧bQ K H a (ws.map vI)∧2≤ws.length∧ws.length≤16∧(∀ x∈ws,x≤50)∧1≤n∧n≤20∧∀ p H',H p=none→H' p=some (.lst ((tab (50*n+1) (spd ws n)).map vI))→Same H H'→Q (.ref p) H'
abbrev jY:Stmt:=top 30
def uE:{ s:Scope // defScope jY=s }:=by
 refine ⟨?_,?_⟩
 rotate_left
 ·conv=>lhs;whnf
noncomputable def DQ:{ b:List Stmt // defBody jY=b }:=by
 refine ⟨?_,?_⟩
 rotate_left
 ·conv=>lhs;whnf
theorem uF:FnScope ["ring","start"] ["ring"] uE.1:=⟨rfl,rfl,rfl,by decide +kernel,rfl,by decide +kernel,by decide +kernel⟩
def Gu (K:PySem.W.Frag):Sp:=fun vs H Q _=>∃ (a:Addr) (R:List Nat),vs=[.ref a]∧H a=some (.lst (R.map vI))∧R≠[]∧R.length≤400000∧∀ (s:Nat) p H',CV R s→H p=none→H' p=some (.lst ((WQ R s).map vI))→Same H H'→Q (.ref p) H'
abbrev jZ:Stmt:=top 20
def uG:{ s:Scope // defScope jZ=s }:=by
 refine ⟨?_,?_⟩
 rotate_left
 ·conv=>lhs;whnf
noncomputable def DR:{ b:List Stmt // defBody jZ=b }:=by
 refine ⟨?_,?_⟩
 rotate_left
 ·conv=>lhs;whnf
theorem gD:FnScope ["number","base","row","rest"] ["number","base"] uG.1:=⟨rfl,rfl,rfl,by decide +kernel,rfl,by decide +kernel,by decide +kernel⟩
def Gv (K:PySem.W.Frag):Sp:=fun vs H Q _=>∃ n b:Nat,vs=[vI n,vI b]∧2≤b∧b≤16∧n<b ^ 1001∧∀ p H',H p=none→H' p=some (.lst ((fl b n).reverse.map vI))→Same H H'→Q (.ref p) H'
abbrev zG:Stmt:=top 25
def Gw:{ s:Scope // defScope zG=s }:=by
 refine ⟨?_,?_⟩
 rotate_left
 ·conv=>lhs;whnf
noncomputable def Qk:{ b:List Stmt // defBody zG=b }:=by
 refine ⟨?_,?_⟩
 rotate_left
 ·conv=>lhs;whnf
theorem Ql:FnScope ["worths","number"] ["worths","number"] Gw.1:=⟨rfl,rfl,rfl,by decide +kernel,rfl,by decide +kernel,by decide +kernel⟩
def U5 (K:PySem.W.Frag):Sp:=fun vs H Q _=>∃ (a:Addr) (ws:List Nat) (n:Nat),vs=[.ref a,vI n]∧bQ K H a (ws.map vI)∧2≤ws.length∧ws.length≤16∧n<ws.length ^ 1001∧∀ H',Same H H'→Q (vI (fall ws n)) H'
abbrev KR:Stmt:=top 17
def Oc:{ s:Scope // defScope KR=s }:=by
 refine ⟨?_,?_⟩
 rotate_left
 ·conv=>lhs;whnf
noncomputable def Yt:{ b:List Stmt // defBody KR=b }:=by
 refine ⟨?_,?_⟩
 rotate_left
 ·conv=>lhs;whnf
theorem zH:FnScope ["number","base","limit","place"] ["number","base"] Oc.1:=⟨rfl,rfl,rfl,by decide +kernel,rfl,by decide +kernel,by decide +kernel⟩
def ZS (K:PySem.W.Frag):Sp:=fun vs H Q _=>∃ (n:Int) (b:Nat),vs=[.int n,vI b]∧2≤b∧b≤16∧Q (.bl (decide (n<(b:Int) ^ 1001))) H
abbrev iZ:Stmt:=top 18
def qZ:{ s:Scope // defScope iZ=s }:=by
 refine ⟨?_,?_⟩
 rotate_left
 ·conv=>lhs;whnf
noncomputable def BJ:{ b:List Stmt // defBody iZ=b }:=by
 refine ⟨?_,?_⟩
 rotate_left
 ·conv=>lhs;whnf
theorem BK:FnScope ["number","base"] ["number","base"] qZ.1:=⟨rfl,rfl,rfl,by decide +kernel,rfl,by decide +kernel,by decide +kernel⟩
def DW (K:PySem.W.Frag):Sp:=fun vs H Q _=>∃ n b:Nat,vs=[vI n,vI b]∧2≤b∧b≤16∧n<b ^ 1001∧Q .non H
abbrev wK:Stmt:=top 28
def Df:{ s:Scope // defScope wK=s }:=by
 refine ⟨?_,?_⟩
 rotate_left
 ·conv=>lhs;whnf
noncomputable def Od:{ b:List Stmt // defBody wK=b }:=by
 refine ⟨?_,?_⟩
 rotate_left
 ·conv=>lhs;whnf
theorem j9:FnScope ["worths","number","walk","met","now"] ["worths","number"] Df.1:=⟨rfl,rfl,rfl,by decide +kernel,rfl,by decide +kernel,by decide +kernel⟩
def Qm (K:PySem.W.Frag):Sp:=fun vs H Q _=>∃ (a:Addr) (ws:List Nat) (n:Nat),vs=[.ref a,vI n]∧bQ K H a (ws.map vI)∧2≤ws.length∧ws.length≤16∧(∀ x∈ws,x≤50)∧n<ws.length ^ 1001∧∀ (k:Nat) p H',vd (fall ws) n k→H p=none→H' p=some (.lst ((path (fall ws) n k).map vI))→Same H H'→Q (.ref p) H'
abbrev wL:Stmt:=top 31
def Dg:{ s:Scope // defScope wL=s }:=by
 refine ⟨?_,?_⟩
 rotate_left
 ·conv=>lhs;whnf
noncomputable def Oe:{ b:List Stmt // defBody wL=b }:=by
 refine ⟨?_,?_⟩
 rotate_left
 ·conv=>lhs;whnf
theorem pA:FnScope ["worths","number","walk","first","falls"] ["worths","number"] Dg.1:=⟨rfl,rfl,rfl,by decide +kernel,rfl,by decide +kernel,by decide +kernel⟩
def Qn (K:PySem.W.Frag):Sp:=fun vs H Q _=>∃ (a:Addr) (ws:List Nat) (n:Nat),vs=[.ref a,vI n]∧bQ K H a (ws.map vI)∧2≤ws.length∧ws.length≤16∧(∀ x∈ws,x≤50)∧n<ws.length ^ 1001∧∀ (R:List Nat) (j:Nat) p t H',fZ (fall ws) n R j→H p=none→H t=none→H' p=some (.lst (R.map vI))→H' t=some (.tup [.ref p,vI j])→Same H H'→Q (.ref t) H'
abbrev sS:Stmt:=top 33
def zJ:{ s:Scope // defScope sS=s }:=by
 refine ⟨?_,?_⟩
 rotate_left
 ·conv=>lhs;whnf
noncomputable def KY:{ b:List Stmt // defBody sS=b }:=by
 refine ⟨?_,?_⟩
 rotate_left
 ·conv=>lhs;whnf
theorem mL:FnScope ["worths","bound","number"] ["worths"] zJ.1:=⟨rfl,rfl,rfl,by decide +kernel,rfl,by decide +kernel,by decide +kernel⟩
def Og (K:PySem.W.Frag):Sp:=fun vs H Q _=>∃ (a:Addr) (ws:List Nat),vs=[.ref a]∧bQ K H a (ws.map vI)∧2≤ws.length∧ws.length≤16∧(∀ x∈ws,x≤50)∧∀ (B:Nat) H',Zd (fall ws) B→B≤451→Same H H'→Q (vI B) H'
abbrev sU:Stmt:=top 34
def zK:{ s:Scope // defScope sU=s }:=by
 refine ⟨?_,?_⟩
 rotate_left
 ·conv=>lhs;whnf
noncomputable def KZ:{ b:List Stmt // defBody sU=b }:=by
 refine ⟨?_,?_⟩
 rotate_left
 ·conv=>lhs;whnf
theorem dO:FnScope ["worths","bound","rings","met_from","start","now"] ["worths"] zK.1:=⟨rfl,rfl,rfl,by decide +kernel,rfl,by decide +kernel,by decide +kernel⟩
def Oh (K:PySem.W.Frag):Sp:=fun vs H Q _=>∃ (a:Addr) (ws:List Nat),vs=[.ref a]∧bQ K H a (ws.map vI)∧2≤ws.length∧ws.length≤16∧(∀ x∈ws,x≤50)∧∀ (l:Addr) (out:List (Addr×List Int)) H',H l=none→H' l=some (.lst (out.map fun p=>V.ref p.1))→(∀ p∈out,H p.1=none∧H' p.1=some (.lst (p.2.map V.int))∧∃ R M L,bw (fall ws) R M L∧p.2=R.map (fun d:Nat=>(d:Int)))→out.Pairwise (fun p q=>p.2.headD 0<q.2.headD 0)→out.length<128→out≠[]→(∀ R M L,bw (fall ws) R M L→∃ p∈out,p.2=R.map (fun d:Nat=>(d:Int)))→Same H H'→Q (.ref l) H'
abbrev j4:Stmt:=top 42
def uH:{ s:Scope // defScope j4=s }:=by
 refine ⟨?_,?_⟩
 rotate_left
 ·conv=>lhs;whnf
noncomputable def DX:{ b:List Stmt // defBody j4=b }:=by
 refine ⟨?_,?_⟩
 rotate_left
 ·conv=>lhs;whnf
theorem DY:FnScope ["limit","most"] ["limit","most"] uH.1:=⟨rfl,rfl,rfl,by decide +kernel,rfl,by decide +kernel,by decide +kernel⟩
def Gx (K:PySem.W.Frag):Sp:=fun vs H Q _=>∃ l m:Nat,vs=[vI l,vI m]∧l≤m∧Q .non H
abbrev dF:Stmt:=top 51
def jy:{ s:Scope // defScope dF=s }:=by
 refine ⟨?_,?_⟩
 rotate_left
 ·conv=>lhs;whnf
noncomputable def uV:{ b:List Stmt // defBody dF=b }:=by
 refine ⟨?_,?_⟩
 rotate_left
 ·conv=>lhs;whnf
theorem cX:FnScope ["worths","limit","count_by_least","ring","number"] ["worths","limit"] jy.1:=⟨rfl,rfl,rfl,by decide +kernel,rfl,by decide +kernel,by decide +kernel⟩
def vJ (K:PySem.W.Frag):Sp:=fun vs H Q _=>∃ (a:Addr) (ws:List Nat) (lim:Nat),vs=[.ref a,vI lim]∧bQ K H a (ws.map vI)∧Bk ws∧lim≤3000∧∀ (p:Addr) H',H p=none→H' p=some (.lst ((cH ws).map fun M=>vI (cnt ws lim M)))→Same H H'→Q (.ref p) H'
abbrev sV:Stmt:=top 47
def zL:{ s:Scope // defScope sV=s }:=by
 refine ⟨?_,?_⟩
 rotate_left
 ·conv=>lhs;whnf
noncomputable def K1:{ b:List Stmt // defBody sV=b }:=by
 refine ⟨?_,?_⟩
 rotate_left
 ·conv=>lhs;whnf
theorem zM:FnScope ["tally","ahead","worths","worth"] ["tally","ahead","worths"] zL.1:=⟨rfl,rfl,rfl,by decide +kernel,rfl,by decide +kernel,by decide +kernel⟩
def Oi (K:PySem.W.Frag):Sp:=fun vs H Q _=>∃ (l a:Addr) (n ah:Nat) (F:Nat→Nat) (us:List Nat),vs=[.ref l,vI ah,.ref a]∧H l=some (.lst ((tab n F).map vI))∧bQ K H a (us.map vI)∧l≠a∧(∀ x∈us,ah+x<n)∧∀ H',H' l=some (.lst ((tab n (fun s=>F s+nq us ah 1 s)).map vI))→(∀ b o,b≠l→H b=some o→H' b=some o)→Q .non H'
abbrev j5:Stmt:=top 48
def uI:{ s:Scope // defScope j5=s }:=by
 refine ⟨?_,?_⟩
 rotate_left
 ·conv=>lhs;whnf
noncomputable def Ea:{ b:List Stmt // defBody j5=b }:=by
 refine ⟨?_,?_⟩
 rotate_left
 ·conv=>lhs;whnf
theorem cO:FnScope ["worths","limit","row","tally","ahead","figure"] ["worths","limit"] uI.1:=⟨rfl,rfl,rfl,by decide +kernel,rfl,by decide +kernel,by decide +kernel⟩
def Gy (K:PySem.W.Frag):Sp:=fun vs H Q _=>∃ (a:Addr) (ws:List Nat) (lim:Nat),vs=[.ref a,vI lim]∧bQ K H a (ws.map vI)∧Bk ws∧lim≤ws.length ^ 20∧∀ (p:Addr) (L:Nat) H',H p=none→H' p=some (.lst ((tab L (cin ws 0 lim)).map vI))→L≤1051→(∀ n,n<lim→fall ws n<L)→Same H H'→Q (.ref p) H'
abbrev j6:Stmt:=top 45
def uJ:{ s:Scope // defScope j6=s }:=by
 refine ⟨?_,?_⟩
 rotate_left
 ·conv=>lhs;whnf
noncomputable def Eb:{ b:List Stmt // defBody j6=b }:=by
 refine ⟨?_,?_⟩
 rotate_left
 ·conv=>lhs;whnf
theorem cP:FnScope ["worths","place_by_least","place","ring","bound","places","number"] ["worths"] uJ.1:=⟨rfl,rfl,rfl,by decide +kernel,rfl,by decide +kernel,by decide +kernel⟩
def Gz (K:PySem.W.Frag):Sp:=fun vs H Q _=>∃ (a:Addr) (ws:List Nat),vs=[.ref a]∧bQ K H a (ws.map vI)∧Bk ws∧∀ (p:Addr) H',H p=none→H' p=some (.lst ((tab 1001 (fun n=>ix ws (hm (fall ws) n))).map vI))→Same H H'→Q (.ref p) H'
abbrev eG:Stmt:=top 41
def lY:{ s:Scope // defScope eG=s }:=by
 refine ⟨?_,?_⟩
 rotate_left
 ·conv=>lhs;whnf
noncomputable def wQ:{ b:List Stmt // defBody eG=b }:=by
 refine ⟨?_,?_⟩
 rotate_left
 ·conv=>lhs;whnf
theorem wR:FnScope ["base"] ["base"] lY.1:=⟨rfl,rfl,rfl,by decide +kernel,rfl,by decide +kernel,by decide +kernel⟩
def yd (K:PySem.W.Frag):Sp:=fun vs H Q _=>∃ b:Nat,vs=[vI b]∧2≤b∧b≤16∧Q (vI (b ^ 20)) H
abbrev jc:Stmt:=top 49
def q9:{ s:Scope // defScope jc=s }:=by
 refine ⟨?_,?_⟩
 rotate_left
 ·conv=>lhs;whnf
noncomputable def BL:{ b:List Stmt // defBody jc=b }:=by
 refine ⟨?_,?_⟩
 rotate_left
 ·conv=>lhs;whnf
theorem dJ:FnScope ["worths","limit","counts","places","total","many"] ["worths","limit"] q9.1:=⟨rfl,rfl,rfl,by decide +kernel,rfl,by decide +kernel,by decide +kernel⟩
def Ec (K:PySem.W.Frag):Sp:=fun vs H Q _=>∃ (a:Addr) (ws:List Nat) (lim:Nat),vs=[.ref a,vI lim]∧bQ K H a (ws.map vI)∧Bk ws∧lim≤ws.length ^ 20∧∀ (p:Addr) H',H p=none→H' p=some (.lst ((cH ws).map fun M=>vI (cnt ws lim M)))→Same H H'→Q (.ref p) H'
abbrev pB:Stmt:=top 80
def xg:{ s:Scope // defScope pB=s }:=by
 refine ⟨?_,?_⟩
 rotate_left
 ·conv=>lhs;whnf
noncomputable def HY:{ b:List Stmt // defBody pB=b }:=by
 refine ⟨?_,?_⟩
 rotate_left
 ·conv=>lhs;whnf
theorem Ia:FnScope ["_law_which","_law_row_here","_law_number","_law_length"] ["_law_which","_law_row_here","_law_number","_law_length"] xg.1:=⟨rfl,rfl,rfl,by decide +kernel,rfl,by decide +kernel,by decide +kernel⟩
def K3 (K:PySem.W.Frag):Sp:=fun vs H Q _=>∃ (wh n len:Nat) (ws:List Nat) (a:Addr),vs=[vI wh,.ref a,vI n,vI len]∧wh<7∧bQ K H a (ws.map vI)∧Bk ws∧n<300∧1≤len∧len≤3∧∀ v c H',Is wh ws n len c→Bf H H' v c→Same H H'→Q v H'
abbrev fU:Stmt:=inClass (top 65) 8
def nM:{ s:Scope // defScope fU=s }:=by
 refine ⟨?_,?_⟩
 rotate_left
 ·conv=>lhs;whnf
noncomputable def yg:{ b:List Stmt // defBody fU=b }:=by
 refine ⟨?_,?_⟩
 rotate_left
 ·conv=>lhs;whnf
theorem yh:FnScope ["self","name"] ["self","name"] nM.1:=⟨rfl,rfl,rfl,by decide +kernel,rfl,by decide +kernel,by decide +kernel⟩
def zN (K:PySem.W.Frag):Sp:=fun vs H Q _=>∃ (h dx d b bx wl tl:Addr) (kvs:List (Key×V)) (nm:Str) (ts:List Addr),vs=[.ref h,.str nm]∧H h=some (.ins (mq K "House") dx [("books",.ref d)])∧H d=some (.dK kvs)∧valV kvs (.inr nm)=some (.ref b)∧H b=some (.ins (mq K "Book") bx [("worths",.ref wl),("told",.ref tl)])∧H tl=some (.lst (ts.map V.ref))∧∀ (p:Addr) H',H p=none→H' p=some (.lst (ts.map V.ref))→Same H H'→Q (.ref p) H'
abbrev j7:Stmt:=inClass (top 65) 4
def uK:{ s:Scope // defScope j7=s }:=by
 refine ⟨?_,?_⟩
 rotate_left
 ·conv=>lhs;whnf
noncomputable def Ed:{ b:List Stmt // defBody j7=b }:=by
 refine ⟨?_,?_⟩
 rotate_left
 ·conv=>lhs;whnf
theorem Ef:FnScope ["self"] ["self"] uK.1:=⟨rfl,rfl,rfl,by decide +kernel,rfl,by decide +kernel,by decide +kernel⟩
def GC (K:PySem.W.Frag):Sp:=fun vs H Q _=>∃ (h dx d:Addr) (kvs:List (Key×V)),vs=[.ref h]∧H h=some (.ins (mq K "House") dx [("books",.ref d)])∧H d=some (.dK kvs)∧kvs.length≤20∧∀ (p:Addr) H',H p=none→H' p=some (.lst (kvs.map fun kv=>kV kv.1))→Same H H'→Q (.ref p) H'
abbrev gF:Stmt:=inClass (top 65) 20
def pC:{ s:Scope // defScope gF=s }:=by
 refine ⟨?_,?_⟩
 rotate_left
 ·conv=>lhs;whnf
noncomputable def zO:{ b:List Stmt // defBody gF=b }:=by
 refine ⟨?_,?_⟩
 rotate_left
 ·conv=>lhs;whnf
theorem zP:FnScope ["self","name","target"] ["self","name","target"] pC.1:=⟨rfl,rfl,rfl,by decide +kernel,rfl,by decide +kernel,by decide +kernel⟩
def BP (K:PySem.W.Frag):Sp:=fun vs H Q _=>∃ (h dx d b bx wl tl:Addr) (kvs:List (Key×V)) (nm:Str) (n len:Nat) (ws:List Nat),vs=[.ref h,.str nm,vI (n % 121)]∧H h=some (.ins (mq K "House") dx [("books",.ref d)])∧H d=some (.dK kvs)∧valV kvs (.inr nm)=some (.ref b)∧H b=some (.ins (mq K "Book") bx [("worths",.ref wl),("told",.ref tl)])∧H wl=some (.lst (ws.map vI))∧Bk ws∧n<300∧1≤len∧len≤3∧∀ v c H',Is 6 ws n len c→Bf H H' v c→Same H H'→Q v H'
abbrev eN:Stmt:=inClass (top 65) 16
def lZ:{ s:Scope // defScope eN=s }:=by
 refine ⟨?_,?_⟩
 rotate_left
 ·conv=>lhs;whnf
noncomputable def wU:{ b:List Stmt // defBody eN=b }:=by
 refine ⟨?_,?_⟩
 rotate_left
 ·conv=>lhs;whnf
theorem wV:FnScope ["self","name","length"] ["self","name","length"] lZ.1:=⟨rfl,rfl,rfl,by decide +kernel,rfl,by decide +kernel,by decide +kernel⟩
def yj (K:PySem.W.Frag):Sp:=fun vs H Q _=>∃ (h dx d b bx wl tl:Addr) (kvs:List (Key×V)) (nm:Str) (n len:Nat) (ws:List Nat),vs=[.ref h,.str nm,vI len]∧H h=some (.ins (mq K "House") dx [("books",.ref d)])∧H d=some (.dK kvs)∧valV kvs (.inr nm)=some (.ref b)∧H b=some (.ins (mq K "Book") bx [("worths",.ref wl),("told",.ref tl)])∧H wl=some (.lst (ws.map vI))∧Bk ws∧n<300∧1≤len∧len≤3∧∀ v c H',Is 5 ws n len c→Bf H H' v c→Same H H'→Q v H'
abbrev cC:Stmt:=inClass (top 65) 15
def eO:{ s:Scope // defScope cC=s }:=by
 refine ⟨?_,?_⟩
 rotate_left
 ·conv=>lhs;whnf
noncomputable def mO:{ b:List Stmt // defBody cC=b }:=by
 refine ⟨?_,?_⟩
 rotate_left
 ·conv=>lhs;whnf
theorem mQ:FnScope ["self","name","limit"] ["self","name","limit"] eO.1:=⟨rfl,rfl,rfl,by decide +kernel,rfl,by decide +kernel,by decide +kernel⟩
def nO (K:PySem.W.Frag):Sp:=fun vs H Q _=>∃ (h dx d b bx wl tl:Addr) (kvs:List (Key×V)) (nm:Str) (n len:Nat) (ws:List Nat),vs=[.ref h,.str nm,vI n]∧H h=some (.ins (mq K "House") dx [("books",.ref d)])∧H d=some (.dK kvs)∧valV kvs (.inr nm)=some (.ref b)∧H b=some (.ins (mq K "Book") bx [("worths",.ref wl),("told",.ref tl)])∧H wl=some (.lst (ws.map vI))∧Bk ws∧n<300∧1≤len∧len≤3∧∀ v c H',Is 4 ws n len c→Bf H H' v c→Same H H'→Q v H'
abbrev dh:Stmt:=inClass (top 65) 14
def jd:{ s:Scope // defScope dh=s }:=by
 refine ⟨?_,?_⟩
 rotate_left
 ·conv=>lhs;whnf
noncomputable def sW:{ b:List Stmt // defBody dh=b }:=by
 refine ⟨?_,?_⟩
 rotate_left
 ·conv=>lhs;whnf
theorem sX:FnScope ["self","name","limit"] ["self","name","limit"] jd.1:=⟨rfl,rfl,rfl,by decide +kernel,rfl,by decide +kernel,by decide +kernel⟩
def uW (K:PySem.W.Frag):Sp:=fun vs H Q _=>∃ (h dx d b bx wl tl:Addr) (kvs:List (Key×V)) (nm:Str) (n len:Nat) (ws:List Nat),vs=[.ref h,.str nm,vI n]∧H h=some (.ins (mq K "House") dx [("books",.ref d)])∧H d=some (.dK kvs)∧valV kvs (.inr nm)=some (.ref b)∧H b=some (.ins (mq K "Book") bx [("worths",.ref wl),("told",.ref tl)])∧H wl=some (.lst (ws.map vI))∧Bk ws∧n<300∧1≤len∧len≤3∧∀ v c H',Is 3 ws n len c→Bf H H' v c→Same H H'→Q v H'
abbrev fV:Stmt:=inClass (top 65) 13
def nP:{ s:Scope // defScope fV=s }:=by
 refine ⟨?_,?_⟩
 rotate_left
 ·conv=>lhs;whnf
noncomputable def yp:{ b:List Stmt // defBody fV=b }:=by
 refine ⟨?_,?_⟩
 rotate_left
 ·conv=>lhs;whnf
theorem yq:FnScope ["self","name"] ["self","name"] nP.1:=⟨rfl,rfl,rfl,by decide +kernel,rfl,by decide +kernel,by decide +kernel⟩
def zQ (K:PySem.W.Frag):Sp:=fun vs H Q _=>∃ (h dx d b bx wl tl:Addr) (kvs:List (Key×V)) (nm:Str) (n len:Nat) (ws:List Nat),vs=[.ref h,.str nm]∧H h=some (.ins (mq K "House") dx [("books",.ref d)])∧H d=some (.dK kvs)∧valV kvs (.inr nm)=some (.ref b)∧H b=some (.ins (mq K "Book") bx [("worths",.ref wl),("told",.ref tl)])∧H wl=some (.lst (ws.map vI))∧Bk ws∧n<300∧1≤len∧len≤3∧∀ v c H',Is 2 ws n len c→Bf H H' v c→Same H H'→Q v H'
abbrev gG:Stmt:=inClass (top 65) 11
def pD:{ s:Scope // defScope gG=s }:=by
 refine ⟨?_,?_⟩
 rotate_left
 ·conv=>lhs;whnf
noncomputable def zR:{ b:List Stmt // defBody gG=b }:=by
 refine ⟨?_,?_⟩
 rotate_left
 ·conv=>lhs;whnf
theorem zT:FnScope ["self","name","number"] ["self","name","number"] pD.1:=⟨rfl,rfl,rfl,by decide +kernel,rfl,by decide +kernel,by decide +kernel⟩
def BR (K:PySem.W.Frag):Sp:=fun vs H Q _=>∃ (h dx d b bx wl tl:Addr) (kvs:List (Key×V)) (nm:Str) (n len:Nat) (ws:List Nat),vs=[.ref h,.str nm,vI n]∧H h=some (.ins (mq K "House") dx [("books",.ref d)])∧H d=some (.dK kvs)∧valV kvs (.inr nm)=some (.ref b)∧H b=some (.ins (mq K "Book") bx [("worths",.ref wl),("told",.ref tl)])∧H wl=some (.lst (ws.map vI))∧Bk ws∧n<300∧1≤len∧len≤3∧∀ v c H',Is 1 ws n len c→Bf H H' v c→Same H H'→Q v H'
abbrev gH:Stmt:=inClass (top 65) 10
def pF:{ s:Scope // defScope gH=s }:=by
 refine ⟨?_,?_⟩
 rotate_left
 ·conv=>lhs;whnf
noncomputable def zU:{ b:List Stmt // defBody gH=b }:=by
 refine ⟨?_,?_⟩
 rotate_left
 ·conv=>lhs;whnf
theorem zV:FnScope ["self","name","number"] ["self","name","number"] pF.1:=⟨rfl,rfl,rfl,by decide +kernel,rfl,by decide +kernel,by decide +kernel⟩
def BW (K:PySem.W.Frag):Sp:=fun vs H Q _=>∃ (h dx d b bx wl tl:Addr) (kvs:List (Key×V)) (nm:Str) (n len:Nat) (ws:List Nat),vs=[.ref h,.str nm,vI n]∧H h=some (.ins (mq K "House") dx [("books",.ref d)])∧H d=some (.dK kvs)∧valV kvs (.inr nm)=some (.ref b)∧H b=some (.ins (mq K "Book") bx [("worths",.ref wl),("told",.ref tl)])∧H wl=some (.lst (ws.map vI))∧Bk ws∧n<300∧1≤len∧len≤3∧∀ v c H',Is 0 ws n len c→Bf H H' v c→Same H H'→Q v H'
abbrev gJ:Stmt:=top 81
def pG:{ s:Scope // defScope gJ=s }:=by
 refine ⟨?_,?_⟩
 rotate_left
 ·conv=>lhs;whnf
noncomputable def zW:{ b:List Stmt // defBody gJ=b }:=by
 refine ⟨?_,?_⟩
 rotate_left
 ·conv=>lhs;whnf
theorem zX:FnScope ["_law_house","_law_which","_law_number","_law_length"] ["_law_house","_law_which","_law_number","_law_length"] pG.1:=⟨rfl,rfl,rfl,by decide +kernel,rfl,by decide +kernel,by decide +kernel⟩
def BX (K:PySem.W.Frag):Sp:=fun vs H Q _=>∃ (h dx d b bx wl tl:Addr) (kvs:List (Key×V)) (wh n len:Nat) (ws:List Nat) (ts:List Addr) (mm:List (List Nat)),vs=[.ref h,vI wh,vI n,vI len]∧7≤wh∧wh<17∧H h=some (.ins (mq K "House") dx [("books",.ref d)])∧H d=some (.dK kvs)∧valV kvs (.inr "b")=some (.ref b)∧kvs.length≤20∧(∀ x∈kvs.map fun kv=>kV kv.1,lV x=true)∧H b=some (.ins (mq K "Book") bx [("worths",.ref wl),("told",.ref tl)])∧H wl=some (.lst (ws.map vI))∧Bk ws∧H tl=some (.lst (ts.map V.ref))∧ts.length=mm.length∧mm.length≤200∧(∀ (i:Nat) (r:Addr) (m:List Nat),ts[i]? = some r→mm[i]? = some m→H r=some (.tup (m.map vI))∧m.length≤3)∧n<300∧1≤len∧len≤3∧∀ v c H',((wh<14∧Is (wh - 7) ws n len c)∨(wh=14∧c=Zz (kvs.map fun kv=>kV kv.1))∨(wh=15∧c=Zz (ws.map vI))∨(wh=16∧c=.inr (true,mm.map fun m=>XF false (m.map vI))))→Bf H H' v c→Same H H'→Q v H'
abbrev wM:Stmt:=top 68
def Dh:{ s:Scope // defScope wM=s }:=by
 refine ⟨?_,?_⟩
 rotate_left
 ·conv=>lhs;whnf
noncomputable def Oj:{ b:List Stmt // defBody wM=b }:=by
 refine ⟨?_,?_⟩
 rotate_left
 ·conv=>lhs;whnf
theorem Ol:FnScope ["_law_script","_law_k"] ["_law_script","_law_k"] Dh.1:=⟨rfl,rfl,rfl,by decide +kernel,rfl,by decide +kernel,by decide +kernel⟩
def Qo (K:PySem.W.Frag):Sp:=fun vs H Q _=>∃ (a:Addr) (ns:List Int) (k:Nat),vs=[.ref a,vI k]∧bQ K H a (ns.map V.int)∧Q (.int (cell ns k)) H
abbrev pH:Stmt:=top 71
def xq:{ s:Scope // defScope pH=s }:=by
 refine ⟨?_,?_⟩
 rotate_left
 ·conv=>lhs;whnf
noncomputable def Ib:{ b:List Stmt // defBody pH=b }:=by
 refine ⟨?_,?_⟩
 rotate_left
 ·conv=>lhs;whnf
theorem xr:FnScope ["_law_handed","_law_row_here","_law_k"] ["_law_handed","_law_row_here"] xq.1:=⟨rfl,rfl,rfl,by decide +kernel,rfl,by decide +kernel,by decide +kernel⟩
def K4 (K:PySem.W.Frag):Sp:=fun vs H Q _=>∃ (a c:Addr) (xs:List Int),vs=[.ref a,.ref c]∧bQ K H a (xs.map V.int)∧bQ K H c (xs.map V.int)∧xs.length≤1000000∧Q (.bl true) H
abbrev gK:Stmt:=top 19
def pI:{ s:Scope // defScope gK=s }:=by
 refine ⟨?_,?_⟩
 rotate_left
 ·conv=>lhs;whnf
noncomputable def zY:{ b:List Stmt // defBody gK=b }:=by
 refine ⟨?_,?_⟩
 rotate_left
 ·conv=>lhs;whnf
theorem pJ:FnScope ["row","base","figure"] ["row","base"] pI.1:=⟨rfl,rfl,rfl,by decide +kernel,rfl,by decide +kernel,by decide +kernel⟩
def BZ (K:PySem.W.Frag):Sp:=fun vs H Q _=>∃ (a:Addr) (rs:List Nat) (b:Nat),vs=[.ref a,vI b]∧bQ K H a (rs.map vI)∧(∀ d∈rs,d<b)∧Q .non H
abbrev mR:Stmt:=inClass (top 65) 6
def vK:{ s:Scope // defScope mR=s }:=by
 refine ⟨?_,?_⟩
 rotate_left
 ·conv=>lhs;whnf
noncomputable def GD:{ b:List Stmt // defBody mR=b }:=by
 refine ⟨?_,?_⟩
 rotate_left
 ·conv=>lhs;whnf
theorem nQ:FnScope ["self","name","figure","worth","book","ahead"] ["self","name","figure","worth"] vK.1:=⟨rfl,rfl,rfl,by decide +kernel,rfl,by decide +kernel,by decide +kernel⟩
def Ie (K:PySem.W.Frag):Sp:=fun vs H Q _=>∃ (h dx d b bx wl tl:Addr) (kvs:List (Key×V)) (nm:Str) (ws:List Nat) (ts:List Addr) (f w:Nat),vs=[.ref h,.str nm,vI f,vI w]∧H h=some (.ins (mq K "House") dx [("books",.ref d)])∧H d=some (.dK kvs)∧valV kvs (.inr nm)=some (.ref b)∧H b=some (.ins (mq K "Book") bx [("worths",.ref wl),("told",.ref tl)])∧H wl=some (.lst (ws.map vI))∧H tl=some (.lst (ts.map V.ref))∧wl≠tl∧f<ws.length∧ws.length≤16∧w≤50∧ts.length≤200∧∀ (r:Addr) H',H r=none→H' r=some (.tup [vI f,vI (wt ws f),vI w])→H' wl=some (.lst ((ws.set f w).map vI))→H' tl=some (.lst (((ts++[r]).drop (ts.length - 199)).map V.ref))→(∀ b o,b≠wl→b≠tl→H b=some o→H' b=some o)→Q (vI (wt ws f)) H'
abbrev gM:Stmt:=inClass (top 64) 0
def pK:{ s:Scope // defScope gM=s }:=by
 refine ⟨?_,?_⟩
 rotate_left
 ·conv=>lhs;whnf
noncomputable def zZ:{ b:List Stmt // defBody gM=b }:=by
 refine ⟨?_,?_⟩
 rotate_left
 ·conv=>lhs;whnf
theorem z6:FnScope ["self","worths"] ["self","worths"] pK.1:=⟨rfl,rfl,rfl,by decide +kernel,rfl,by decide +kernel,by decide +kernel⟩
def Ca (K:PySem.W.Frag):Sp:=fun vs H Q _=>∃ (x dx a:Addr) (ws:List Nat),vs=[.ref x,.ref a]∧H x=some (.ins (mq K "Book") dx [])∧bQ K H a (ws.map vI)∧ws.length≤16∧∀ (wl tl:Addr) H',H wl=none→H tl=none→wl≠tl→H' x=some (.ins (mq K "Book") dx [("worths",.ref wl),("told",.ref tl)])→H' wl=some (.lst (ws.map vI))→H' tl=some (.lst [])→(∀ b o,b≠x→H b=some o→H' b=some o)→Q .non H'
abbrev mU:Stmt:=inClass (top 65) 2
def vL:{ s:Scope // defScope mU=s }:=by
 refine ⟨?_,?_⟩
 rotate_left
 ·conv=>lhs;whnf
noncomputable def GF:{ b:List Stmt // defBody mU=b }:=by
 refine ⟨?_,?_⟩
 rotate_left
 ·conv=>lhs;whnf
theorem GJ:FnScope ["self","name","worths"] ["self","name","worths"] vL.1:=⟨rfl,rfl,rfl,by decide +kernel,rfl,by decide +kernel,by decide +kernel⟩
def Ig (K:PySem.W.Frag):Sp:=fun vs H Q _=>∃ (h dx d a:Addr) (kvs:List (Key×V)) (nm:Str) (ws:List Nat),vs=[.ref h,.str nm,.ref a]∧H h=some (.ins (mq K "House") dx [("books",.ref d)])∧H d=some (.dK kvs)∧valV kvs (.inr nm)=none∧kvs.length<20∧bQ K H a (ws.map vI)∧Bk ws∧∀ (b bx wl tl:Addr) H',H b=none→H wl=none→H tl=none→wl≠tl→H' d=some (.dK (kvs++[(.inr nm,.ref b)]))→H' b=some (.ins (mq K "Book") bx [("worths",.ref wl),("told",.ref tl)])→H' wl=some (.lst (ws.map vI))→H' tl=some (.lst [])→(∀ c o,c≠d→H c=some o→H' c=some o)→Q .non H'
abbrev fW:Stmt:=inClass (top 65) 0
def nR:{ s:Scope // defScope fW=s }:=by
 refine ⟨?_,?_⟩
 rotate_left
 ·conv=>lhs;whnf
noncomputable def yr:{ b:List Stmt // defBody fW=b }:=by
 refine ⟨?_,?_⟩
 rotate_left
 ·conv=>lhs;whnf
theorem yt:FnScope ["self"] ["self"] nR.1:=⟨rfl,rfl,rfl,by decide +kernel,rfl,by decide +kernel,by decide +kernel⟩
def z7 (K:PySem.W.Frag):Sp:=fun vs H Q _=>∃ (x dx:Addr),vs=[.ref x]∧H x=some (.ins (mq K "House") dx [])∧∀ (d:Addr) H',H d=none→H' x=some (.ins (mq K "House") dx [("books",.ref d)])→H' d=some (.dK [])→(∀ b o,b≠x→H b=some o→H' b=some o)→Q .non H'
abbrev mV:Stmt:=top 69
def vM:{ s:Scope // defScope mV=s }:=by
 refine ⟨?_,?_⟩
 rotate_left
 ·conv=>lhs;whnf
noncomputable def GK:{ b:List Stmt // defBody mV=b }:=by
 refine ⟨?_,?_⟩
 rotate_left
 ·conv=>lhs;whnf
theorem vN:FnScope ["_law_cell","_law_place","_law_first"] ["_law_cell","_law_place"] vM.1:=⟨rfl,rfl,rfl,by decide +kernel,rfl,by decide +kernel,by decide +kernel⟩
def Ih (K:PySem.W.Frag):Sp:=fun vs H Q _=>∃ c p:Int,vs=[.int c,.int p]∧Q (.int (mixed c p)) H
abbrev pL:Stmt:=top 70
def xu:{ s:Scope // defScope pL=s }:=by
 refine ⟨?_,?_⟩
 rotate_left
 ·conv=>lhs;whnf
noncomputable def Ii:{ b:List Stmt // defBody pL=b }:=by
 refine ⟨?_,?_⟩
 rotate_left
 ·conv=>lhs;whnf
theorem cU:FnScope ["_law_script","_law_k","_law_base","_law_way","_law_cell","_law_most","_law_row_here","_law_figure"] ["_law_script","_law_k"] xu.1:=⟨rfl,rfl,rfl,by decide +kernel,rfl,by decide +kernel,by decide +kernel⟩
def K5 (K:PySem.W.Frag):Sp:=fun vs H Q _=>∃ (a:Addr) (ns:List Int) (k:Nat),vs=[.ref a,vI k]∧bQ K H a (ns.map V.int)∧∀ (ws:List Nat) p H',2≤ws.length→ws.length≤16→(∀ x∈ws,x≤50)→H p=none→H' p=some (.lst (ws.map vI))→Same H H'→Q (.ref p) H'
abbrev GQ:Stmt:=top 82
def TV:{ s:Scope // defScope GQ=s }:=by
 refine ⟨?_,?_⟩
 rotate_left
 ·conv=>lhs;whnf
noncomputable def ZV:{ b:List Stmt // defBody GQ=b }:=by
 refine ⟨?_,?_⟩
 rotate_left
 ·conv=>lhs;whnf
theorem gO:FnScope ["_law_script","_law_row_here","_law_number","_law_length","_law_house","_law_handed","_law_now","_law_which","_law_found","_law_turn","_law_told_here"] ["_law_script"] TV.1:=⟨rfl,rfl,rfl,by decide +kernel,rfl,by decide +kernel,by decide +kernel⟩
def Qp (K:PySem.W.Frag):Sp:=fun vs H Q _=>∃ (a:Addr) (ns:List Int),vs=[.ref a]∧SqL K H a (ns.map V.int)∧ns.length≤63∧∀ H',Q (.bl true) H'
section
variable (P:Program) (w:World) (K:PySem.W.Frag) (mg:Str→Option Value) (base:Heap)
abbrev dY:=Good P w K mg base CX0 1 "_law_whole" ["_law_found"] (HB K)
abbrev Di:=Good P w K mg base CX0 2 "_law_row" ["_law_found","_law_due"] (N7 K)
abbrev bD:=lU P w K mg base CX0 1 "House" "book_of" ["self","name"] (Bm K)
abbrev gZ:=lU P w K mg base CX0 2 "House" "worths_of" ["self","name"] (yc K)
abbrev z8:=Good P w K mg base CX0 1 "_law_fall" ["_law_row_here","_law_number"] (KJ K)
abbrev xG:=Good P w K mg base CX0 2 "_law_homes" ["_law_row_here","_law_top"] (HF K)
abbrev vO:=Good P w K mg base CX0 3 "_law_leasts" ["_law_row_here"] (Gj K)
abbrev vP:=Good P w K mg base CX0 1 "_law_firsts" ["_law_found"] (Gk K)
abbrev rm:=Good P w K mg base CX0 2 "_law_alike" ["_law_one","_law_other"] (Bo K)
abbrev rA:=Good P w K mg base CX0 3 "_law_alike" ["_law_one","_law_other"] (Bp K)
abbrev rB:=Good P w K mg base CX0 4 "_law_alike" ["_law_one","_law_other"] (Bq K)
abbrev rC:=Good P w K mg base CX0 1 "_law_spoil" ["_law_found"] (Br K)
abbrev rD:=Good P w K mg base CX0 2 "_law_spoil" ["_law_found"] (Bs K)
abbrev rE:=Good P w K mg base CX0 3 "_law_spoil" ["_law_found"] (qT K)
abbrev uL:=Good P w K mg base CX0 1 "_law_copy" ["_law_found"] (Dw K)
abbrev uM:=Good P w K mg base CX0 2 "_law_copy" ["_law_found"] (Dy K)
abbrev uN:=Good P w K mg base CX0 3 "_law_copy" ["_law_found"] (uz K)
abbrev xH:=Good P w K mg base CX0 1 "fewest_for" ["table","worths","total"] (HJ K)
abbrev Dj:=Good P w K mg base CX0 2 "table_to" ["worths","target"] (N8 K)
abbrev uO:=Good P w K mg base CX0 1 "check_target" ["target"] (Dz K)
abbrev nT:=Good P w K mg base CX0 1 "check_worth" ["worth"] (Gn K)
abbrev xJ:=Good P w K mg base CX0 1 "check_base" ["base"] (HN K)
abbrev cB:=Good P w K mg base CX0 2 "check_worths" ["worths"] (DN K)
abbrev yu:=Good P w K mg base CX0 3 "sums_to" ["worths","target"] (Qi K)
abbrev pY:=Good P w K mg base CX0 1 "lengthened" ["tally","worths"] (HS K)
abbrev JN:=Good P w K mg base CX0 2 "spread" ["worths","length"] (U4 K)
abbrev uP:=Good P w K mg base CX0 1 "check_length" ["length"] (DP K)
abbrev sY:=Good P w K mg base CX0 3 "spread_of" ["worths","length"] (KQ K)
abbrev vQ:=Good P w K mg base CX0 1 "least_first" ["ring"] (Gu K)
abbrev nU:=Good P w K mg base CX0 1 "taken_apart" ["number","base"] (Gv K)
abbrev mY:=Good P w K mg base CX0 2 "fallen" ["worths","number"] (U5 K)
abbrev TX:=Good P w K mg base CX0 1 "fits" ["number","base"] (ZS K)
abbrev uQ:=Good P w K mg base CX0 2 "check_number" ["number","base"] (DW K)
abbrev sZ:=Good P w K mg base CX0 3 "walk_of" ["worths","number"] (Qm K)
abbrev jE:=Good P w K mg base CX0 4 "ring_of" ["worths","number"] (Qn K)
abbrev vR:=Good P w K mg base CX0 3 "bound_of" ["worths"] (Og K)
abbrev iD:=Good P w K mg base CX0 5 "rings_of" ["worths"] (Oh K)
abbrev nW:=Good P w K mg base CX0 1 "check_limit" ["limit","most"] (Gx K)
abbrev fC:=Good P w K mg base CX0 6 "counts_one_by_one" ["worths","limit"] (vJ K)
abbrev Dk:=Good P w K mg base CX0 1 "add_each" ["tally","ahead","worths"] (Oi K)
abbrev vU:=Good P w K mg base CX0 2 "tally_below" ["worths","limit"] (Gy K)
abbrev vV:=Good P w K mg base CX0 6 "ring_places" ["worths"] (Gz K)
abbrev nY:=Good P w K mg base CX0 1 "first_uncounted" ["base"] (yd K)
abbrev kJ:=Good P w K mg base CX0 7 "counts_below" ["worths","limit"] (Ec K)
abbrev z9:=Good P w K mg base CX0 8 "_law_told" ["_law_which","_law_row_here","_law_number","_law_length"] (K3 K)
abbrev pN:=lU P w K mg base CX0 2 "House" "tellings" ["self","name"] (zN K)
abbrev vW:=lU P w K mg base CX0 1 "House" "names" ["self"] (GC K)
abbrev rF:=lU P w K mg base CX0 4 "House" "sums_to" ["self","name","target"] (BP K)
abbrev nZ:=lU P w K mg base CX0 4 "House" "spread_of" ["self","name","length"] (yj K)
abbrev fG:=lU P w K mg base CX0 7 "House" "counts_one_by_one" ["self","name","limit"] (nO K)
abbrev jz:=lU P w K mg base CX0 8 "House" "counts_below" ["self","name","limit"] (uW K)
abbrev pO:=lU P w K mg base CX0 6 "House" "rings_of" ["self","name"] (zQ K)
abbrev rG:=lU P w K mg base CX0 5 "House" "ring_of" ["self","name","number"] (BR K)
abbrev rH:=lU P w K mg base CX0 4 "House" "walk_of" ["self","name","number"] (BW K)
abbrev rJ:=Good P w K mg base CX0 9 "_law_by_house" ["_law_house","_law_which","_law_number","_law_length"] (BX K)
abbrev yw:=Good P w K mg base CX0 1 "_law_at" ["_law_script","_law_k"] (Qo K)
abbrev Aa:=Good P w K mg base CX0 2 "_law_same" ["_law_handed","_law_row_here"] (K4 K)
abbrev rK:=Good P w K mg base CX0 1 "check_figures" ["row","base"] (BZ K)
abbrev xK:=lU P w K mg base CX0 2 "House" "tell" ["self","name","figure","worth"] (Ie K)
abbrev rM:=MF P w K mg base CX0 1 "Book" ["self","worths"] (Ca K)
abbrev xM:=lU P w K mg base CX0 3 "House" "keep" ["self","name","worths"] (Ig K)
abbrev pP:=MF P w K mg base CX0 1 "House" ["self"] (z7 K)
abbrev xO:=Good P w K mg base CX0 1 "_law_mixed" ["_law_cell","_law_place"] (Ih K)
abbrev Ab:=Good P w K mg base CX0 2 "_law_book" ["_law_script","_law_k"] (K5 K)
end
section
variable {P:Program} {w:World} {K:PySem.W.Frag} {mg:Str→Option Value} {base:Heap}
theorem Ij (T:Txt mg) (F:aN K mg "_law_whole" mD ["_law_found"]) :dY P w K mg base:=by
 refine F.aZ vB.2 Gg.2 Gh (fun vs H Q E h=>?_) (fun f cdv A outer s H vs Q E hr h=>?_) <;> obtain ⟨v,rfl,h0⟩:=h
 ·rfl
 ·have hu:=hu_of hr
  refine ⟨_,(aq (aG (eU (aA aP (by rfl) T.aF aD (aj (qv 0) (aj (bF T.aaG VF) ak))) (m9 (abu (aA aP (by rfl) T.aF aD (aj (qv 0) (aj (bF T.abR Y7) ak)))))))),?_⟩
  rcases h0 with ⟨i,rfl,k⟩ | ⟨t,ht,hc,k⟩
  ·walk_at "wp"
   exact k
  ·have e:Lx H v "int" = some false:=cN ht (by rcases hc with rfl | rfl | rfl | rfl <;> rfl)
   walk_at "wp"
   refine za e ?_
   walk_at "wp"
   exact k
theorem Om (T:Txt mg) (F:aN K mg "_law_row" sI ["_law_found","_law_due"]) (aU:dY P w K mg base):Di P w K mg base:=by
 refine F.aZ zq.2 KH.2 zu (fun vs H Q E h=>?_) (fun f cdv A outer s H vs Q E hr h=>?_) <;> obtain ⟨a,c,xs,ys,rfl,h1,h2,h3,k⟩:=h
 ·rfl
 ·have hu:=hu_of hr
  refine ⟨_,(ao (aV (dX (gU (bC (aA aP (by rfl) T.aF aD (aj (qv 0) (aj (bF T.bW bH) ak))))) (cM (aK op_ne (aA aM (by rfl) T.cF PySem.boot_len (aj (qv 0) ak)) (aA aM (by rfl) T.cF PySem.boot_len (aj (qv 1) ak)) (nomark _)))).qt (aq (aG dw)) aO)
   (ao (bL PassesOwn.never rfl (bK rfl T.cJ (aj (aA aM (by rfl) T.cF PySem.boot_len (aj (qv 1) ak)) ak)) (aW (i:=2) zu.nd rfl (Or.inl rfl)) (aq (aV (dX (gU (bC (au aU (hr.mono (by decide)) pass0 (aj (bY cD (qv 0) (qv 2) (fun _ _=>rfl)) ak)))) (cM (aK op_ne (bY cD (qv 0) (qv 2) (fun _ _=>rfl)) (bY cD (qv 1) (qv 2) (fun _ _=>rfl)) (nomark _)))).qt (aq (aG dw)) aO)))
   (aq (aG dw)))),?_⟩
  walk_at "wp"
  refine ⟨true,rT h1,?_⟩
  walk_at "wp"
  refine ⟨_,bQ.of h1,_,h2,ite2 (fun e=>⟨_,h2,?_⟩) (fun e=>?_)⟩
  ·rw [List.length_map,List.length_map] at e
   rw [List.length_map]
   refine ⟨by omega,by omega,mj.go (fun i σ H2=>∃ v,σ=[some (.ref a),some (.ref c),v]∧H2=H∧∀ j,j<i→xs[j]? = ys[j]?) ⟨none,rfl,rfl,by intro j h;omega⟩ ?_ ?_⟩
   ·rintro i σ H2 N hi ⟨v,rfl,rfl,hj⟩ hN
    have hx:xs[i]? = some (xs[i]'(by omega)):=List.getElem?_eq_getElem (by omega)
    have hy:ys[i]? = some (ys[i]'(by omega)):=List.getElem?_eq_getElem (by omega)
    have hx':atI (xs.map V.int) (i:Int)=some (.int (xs[i]'(by omega))):=atI_nat (by rw [List.getElem?_map,hx];rfl)
    have hy':atI (ys.map V.int) (i:Int)=some (.int (ys[i]'(by omega))):=atI_nat (by rw [List.getElem?_map,hy];rfl)
    walk_at "wp"
    refine ⟨_,bQ.of h1,_,hx',_,rfl,.inl ⟨_,rfl,?_⟩⟩
    walk_at "wp"
    refine ⟨_,bQ.of h1,_,hx',_,h2,_,hy',?_⟩
    walk_at "wp"
    refine ite2 (fun e2=>hN _ _ ⟨some (.int i),rfl,rfl,fun j hj2=>?_⟩) (fun e2=>?_)
    ·by_cases e3:j<i
     ·exact hj j e3
     ·have e4:j=i:=by omega
      rw [e4,hx,hy,e2]
    ·rw [decide_eq_false (fun e3=>e2 (by subst e3;rfl))] at k
     exact k
   ·rintro σ H2 ⟨v,rfl,rfl,hj⟩
    walk_at "wp"
    have e2:xs=ys:=by
     refine List.ext_getElem? fun i=>?_
     by_cases h:i<ys.length
     ·exact hj i h
     ·rw [List.getElem?_eq_none (by omega),List.getElem?_eq_none (by omega)]
    rw [decide_eq_true e2] at k
    exact k
  ·rw [List.length_map,List.length_map] at e
   rw [decide_eq_false (fun e2=>e (by rw [e2]))] at k
   exact k
theorem Cd (T:Txt mg) (F:MethAt K "House" "book_of" "House.book_of" gC ["self","name"]) (aL:ClsAt K mg "House") (bA:oW K "House" "books") :bD P w K mg base:=by
 refine F.aZ o8.2 zA.2 zB (fun vs H Q E h=>?_) (fun f cdv A outer s H vs Q E hr h=>?_) <;> obtain ⟨h,dx,d,b,kvs,nm,rfl,hh,hd,hv,k⟩:=h
 ·rfl
 ·have hu:=hu_of hr
  refine ⟨_,(ao (aV (qO hu (qv 1) (dj (K:=K) rfl (qv 0))) (aq (eX)) aO)
   (aq (aG (wB hu (dj (K:=K) rfl (qv 0)) (qv 1) (fun _ _=>rfl))))),?_⟩
  have hg:DGet H d (.str nm) (some (.ref b)):=by
   have:=DGet.k (k:=Sum.inr nm) hd
   rw [hv] at this
   exact this
  walk_at "wp"
  refine ⟨_,_,_,hh,aL.cl,bA,_,by rfl,?_⟩
  walk_at "wp"
  refine ⟨_,hg,?_⟩
  walk_at "wp"
  refine ⟨_,_,_,hh,aL.cl,bA,_,by rfl,?_⟩
  walk_at "wp"
  exact ⟨_,hg,k⟩
theorem yx (T:Txt mg) (F:MethAt K "House" "worths_of" "House.worths_of" eF ["self","name"]) (bB:ClsAt K mg "Book") (aL:ClsAt K mg "House") (aJ:oW K "Book" "worths") (aH:bD P w K mg base):gZ P w K mg base:=by
 refine F.aZ lX.2 wN.2 wO (fun vs H Q E h=>?_) (fun f cdv A outer s H vs Q E hr h=>?_) <;> obtain ⟨h,dx,d,b,bx,wl,tl,kvs,nm,ws,rfl,hh,hd,hv,hb,hwl,k⟩:=h
 ·rfl
 ·have hu:=hu_of hr
  refine ⟨_,(aq (aG (cV fL (by rfl) T.bW bH (aj (dj (K:=K) rfl (bR (K:=K) (pl:=_) rfl aL aH (hr.mono (by decide)) pass0 (qv 0) (aj (qv 1) ak))) ak)))),?_⟩
  walk_at "wp"
  refine ⟨_,_,hh,by rfl,h,dx,d,b,kvs,nm,rfl,hh,hd,hv,?_⟩
  walk_at "wp"
  refine ⟨_,_,_,hb,bB.cl,aJ,_,by rfl,?_⟩
  walk_at "wp"
  exact ⟨_,bQ.of hwl,fun p hp=>k p _ hp upd_same (Same.new hp)⟩
theorem K6 (T:Txt mg) (F:aN K mg "_law_fall" o9 ["_law_row_here","_law_number"]) :z8 P w K mg base:=by
 refine F.aZ w5.2 HD.2 gq (fun vs H Q E h=>?_) (fun f cdv A outer s H vs Q E hr h=>?_) <;> obtain ⟨a,ws,n,rfl,hS,h1,h2,k⟩:=h
 ·rfl
 ·have hu:=hu_of hr
  refine ⟨_,(ao (aQ (i:=2) gq.nd rfl (Or.inl rfl) (bY cD (qv 0) (bf op_mod (qv 1) (aA aM (by rfl) T.cF PySem.boot_len (aj (qv 0) ak))) (fun _ _=>rfl)))
   (ao (aQ (i:=3) gq.nd rfl (Or.inl rfl) (bf m8 (qv 1) (aA aM (by rfl) T.cF PySem.boot_len (aj (qv 0) ak))))
   (ao (u9 PassesOwn.never (aK oX (qv 3) aB (nomark _)) (ao (aQ (i:=2) gq.nd rfl (Or.inl rfl) (bf op_add (qv 2) (bY cD (qv 0) (bf op_mod (qv 3) (aA aM (by rfl) T.cF PySem.boot_len (aj (qv 0) ak))) (fun _ _=>rfl))))
   (aq (aQ (i:=3) gq.nd rfl (Or.inl rfl) (bf m8 (qv 3) (aA aM (by rfl) T.cF PySem.boot_len (aj (qv 0) ak)))))))
   (aq (aG (qv 2)))))),?_⟩
  have hmod:∀ r:Nat,(r:Int) % (ws.length:Int)=((r % ws.length:Nat):Int):=fun r=>by rw [Int.natCast_emod]
  have hdiv:∀ r:Nat,(r:Int) / (ws.length:Int)=((r / ws.length:Nat):Int):=fun r=>by rw [Int.natCast_ediv]
  walk_at "wp"
  refine ⟨_,hS,?_⟩
  rw [List.length_map,hmod]
  refine ⟨by omega,_,hS,_,Fp (Nat.mod_lt _ (by omega)),_,hS,?_⟩
  rw [List.length_map,hdiv]
  refine ⟨su (by omega) (by omega),?_⟩
  refine yO (fun r σ H2=>∃ t:Nat,σ=[some (.ref a),some (vI n),some (vI t),some (vI r)]∧H2=H∧fall ws n=t+(if r=0 then 0 else fall ws r)) (n / ws.length) ⟨_,rfl,rfl,Jg h1 n⟩ ?_
  rintro r σ H2 ⟨t,rfl,rfl,he⟩
  walk_at "wp"
  refine ite2 (fun c=>Wh.go fun N hN=>?_) (fun c=>?_)
  ·walk_at "wp"
   refine ⟨_,hS,?_⟩
   rw [List.length_map,hmod]
   refine ⟨by omega,_,hS,_,Fp (Nat.mod_lt _ (by omega)),?_⟩
   walk_at "wp"
   refine ⟨_,hS,?_⟩
   rw [List.length_map,hdiv]
   refine ⟨su (by omega) (by omega),hN (r / ws.length) _ _ (Nat.div_lt_self (by omega) (by omega)) ⟨t+wt ws (r % ws.length),by walk_at "cast",rfl,?_⟩⟩
   rw [he,if_neg (by omega),Jg h1 r]
   omega
  ·walk_at "wp"
   rw [if_pos (by omega)] at he
   rw [show t=fall ws n by omega]
   exact k
theorem Ik (T:Txt mg) (F:aN K mg "_law_homes" mF ["_law_row_here","_law_top"]) (vX:z8 P w K mg base):xG P w K mg base:=by
 refine F.aZ vC.2 Gi.2 bO (fun vs H Q E h=>?_) (fun f cdv A outer s H vs Q E hr h=>?_) <;> obtain ⟨a,ws,tp,rfl,hS,hb,hT,k⟩:=h
 ·rfl
 ·have hu:=hu_of hr
  refine ⟨_,(ao (aQ (i:=2) bO.nd rfl (Or.inl rfl) nj)
   (ao (bL PassesOwn.never rfl (bK rfl T.cJ (aj (qv 1) ak)) (aW (i:=3) bO.nd rfl (Or.inl rfl)) (ao (aQ (i:=4) bO.nd rfl (Or.inl rfl) (eV ak))
   (ao (aQ (i:=5) bO.nd rfl (Or.inl rfl) nj)
   (ao (aQ (i:=6) bO.nd rfl (Or.inl rfl) (qv 3))
   (ao (u9 PassesOwn.never (J4 (qO hu (qv 6) (qv 2)) (Es (qO hu (qv 6) (qv 5)))).qt (ao (rZ hu (qv 5) (qv 6) (aA aM (by rfl) T.cF PySem.boot_len (aj (qv 4) ak)) rfl)
   (ao (aY (iJ (K:=K) rfl PySem.F.plainAttrs_list PySem.F.slot_list_append PySem.F.type_list_append bN (qv 4) (aj (qv 6) ak)))
   (aq (aQ (i:=6) bO.nd rfl (Or.inl rfl) (au vX (hr.mono (by decide)) pass0 (aj (qv 0) (aj (qv 6) ak))))))))
   (ao (aV (Wy hu (qv 6) (qv 2)) (aq (aQ (i:=7) bO.nd rfl (Or.inl rfl) (wB hu (qv 2) (qv 6) (fun _ _=>rfl)))) (aq (aQ (i:=7) bO.nd rfl (Or.inl rfl) (aA (Av rfl) (by rfl) T.TQ JZ (aj (iI Ma (qv 4) (jT (wB hu (qv 5) (qv 6) (fun _ _=>rfl))) oY) ak)))))
   (aq (bL PassesOwn.never rfl (iw (qv 4)) (aW (i:=8) bO.nd rfl (Or.inl rfl)) (aq (rZ hu (qv 2) (qv 8) (qv 7) rfl))))))))))
   (aq (aG (qv 2))))),?_⟩
  walk_at "wp"
  refine fun d hd=>⟨by omega,by omega,?_⟩
  refine mj.go (fun i σ H2=>∃ (ps:List (Nat×V)) (v1 v2 v3 v4 v5 v6:Option V),σ=[some (.ref a),some (vI tp),some (.ref d),v1,v2,v3,v4,v5,v6]∧H2 d=some (.dK (wC ps))∧SM ws i tp ps∧Same H H2) ⟨[],none,none,none,none,none,none,rfl,upd_same,SM.nil ws tp,Same.new hd⟩ ?_ ?_
  ·rintro i σ H2 N hi ⟨ps,v1,v2,v3,v4,v5,v6,rfl,hd2,hm2,hs2⟩ hN
   walk_at "wp"
   refine ⟨by decide,fun p hp q hq=>?_⟩
   have hp0:H p=none:=hs2.free hp
   have hq0:H q=none:=hs2.free ((Same.new hp).free hq)
   have hpq:p≠q:=ne_of_none (o:=.lst []) upd_same hq
   have hdp:d≠p:=ne_of_none hd2 hp
   have hdq:d≠q:=ne_of_none (Same.new (o:=.lst []) hp _ _ hd2) hq
   refine yO (fun m σ H3=>∃ (t:Nat) (w1 w2:Option V),m=tp+452 - t∧Ox (fall ws) i (ps.map (·.1)) t∧σ=[some (.ref a),some (vI tp),some (.ref d),some (vI i),some (.ref p),some (.ref q),some (vI (it (fall ws) i t)),w1,w2]∧H3 d=some (.dK (wC ps))∧H3 p=some (.lst ((path (fall ws) i t).map vI))∧H3 q=some (.dK (wC (Dr (fall ws) i t)))∧Same H2 H3) (tp+452) ⟨0,_,_,rfl,Ox.zero hm2.nd,rfl,?_,?_,upd_same,(Same.new hp).trans (Same.new hq)⟩ ?_
   ·rw [upd_ne hdq,upd_ne hdp];exact hd2
   ·rw [upd_ne hpq];exact upd_same
   rintro m σ H3 ⟨t,w1,w2,rfl,hwk,rfl,xP,hp3,YG,hs3⟩
   have hlen:=hm2.short hb (by omega) hwk
   walk_at "wp"
   refine ⟨_,DGet.k (k:=Sum.inl ((it (fall ws) i t:Nat):Int)) xP,?_⟩
   rw [dB,lookup_isSome]
   have hi':i≤tp:=by omega
   have fin:∀ (D:Ends) (H5:Hp) (w2:Option V) (x:V),D.nx=N→x=vI (hm (fall ws) i)→it (fall ws) i t∈ps.map (·.1)++path (fall ws) i t→H5 d=some (.dK (wC ps))→H5 p=some (.lst ((path (fall ws) i t).map vI))→Same H H5 →
     pU K p (gName 8) (sDPut (tVar 2) (tVar 8) (tVar 7)) D [some (.ref a),some (vI tp),some (.ref d),some (vI i),some (.ref p),some (.ref q),some (vI (it (fall ws) i t)),some x,w2] H5:=by
    intro D H5 w2 x hD hx hc h5 YH hs5
    subst hx
    refine pU.at (xs:=(path (fall ws) i t).map vI) (bQ.of YH) (fun j σ H6=>j≤t∧∃ v6:Option V,σ=[some (.ref a),some (vI tp),some (.ref d),some (vI i),some (.ref p),some (.ref q),some (vI (it (fall ws) i t)),some (vI (hm (fall ws) i)),v6]∧H6 d=some (.dK (wC (ps++(path (fall ws) i j).map fun x=>(x,vI (hm (fall ws) i)))))∧∀ b o,b≠d→H5 b=some o→H6 b=some o) ⟨Nat.zero_le _,w2,rfl,?_,fun b o _ e=>e⟩ ?_ ?_ ?_
    ·show H5 d=some (.dK (wC (ps++[])))
     rw [List.append_nil];exact h5
    ·rintro j σ H6 _ ⟨_,v6,rfl,_,h6⟩ o e
     exact h6 p o (Ne.symm hdp) e
    ·rintro j x σ H6 N2 hx ⟨hj,v6,rfl,hd6,h6⟩ Vb
     rw [List.getElem?_map,Option.map_eq_some_iff] at hx
     obtain ⟨y,hy,rfl⟩:=hx
     have hjt:j<t:=by have:=(List.getElem?_eq_some_iff.mp hy).1;rw [bh] at this;exact this
     rw [bV hjt] at hy
     obtain rfl:=Option.some.inj hy
     walk_at "wp"
     have hlk:(ps++(path (fall ws) i j).map fun x=>(x,vI (hm (fall ws) i))).lookup (it (fall ws) i j)=none:=dG (by
      rw [sG]
      intro z
      have nd:=hwk.nd
      rcases List.mem_append.mp z with z | z
      ·exact (List.nodup_append.mp nd).2.2 _ z _ (bJ.mpr ⟨j,hjt,rfl⟩) rfl
      ·obtain ⟨m,hm,e⟩:=bJ.mp z
       have:=iz (List.nodup_append.mp nd).2.1 (bV (f:=fall ws) (n:=i) (show m<t by omega)) (by rw [e];exact bV hjt)
       omega)
     refine ⟨_,DPut.k (k:=Sum.inl ((it (fall ws) i j:Nat):Int)) hd6 (by rw [sE,List.length_append,List.length_map,bh];exact aX (by omega)),?_⟩
     rw [wD hlk]
     refine Vb _ _ ⟨by omega,_,rfl,?_,fun b o hb e=>by rw [upd_ne hb];exact h6 b o hb e⟩
     rw [upd_same,iy,List.map_append,←List.append_assoc];rfl
    ·rintro σ H6 ⟨_,v6,rfl,hd6,h6⟩
     rw [List.length_map,bh] at hd6
     rw [hD]
     exact hN _ _ ⟨_,_,_,_,_,_,_,rfl,hd6,hm2.next hb hi' hwk hc,fun b o e=>h6 b o (ne_of_none e hd) (hs5 b o e)⟩
   have Qq:Same H H3:=hs2.trans hs3
   refine ite2 (fun c=>?_) (fun c=>?_)
   ·have c:=of_decide_eq_true c
    refine ⟨_,DGet.k (k:=Sum.inl ((it (fall ws) i t:Nat):Int)) xP,?_⟩
    have hv:=hm2.at c
    rw [dB,hv]
    walk_at "wp"
    refine ⟨vI (hm (fall ws) (it (fall ws) i t)),by have:=DGet.k (k:=Sum.inl ((it (fall ws) i t:Nat):Int)) xP;rw [dB,hv] at this;exact this,?_⟩
    exact fin _ _ _ _ rfl (by rw [hb.Xj]) (List.mem_append_left _ c) xP hp3 Qq
   ·have c:it (fall ws) i t ∉ ps.map (·.1):=fun z=>c (decide_eq_true z)
    refine ⟨_,DGet.k (k:=Sum.inl ((it (fall ws) i t:Nat):Int)) YG,?_⟩
    rw [dB,lookup_isSome,Ax]
    refine ite2 (fun c2=>?_) (fun c2=>Wh.go fun N' hN'=>?_)
    ·have c2:=of_decide_eq_true c2
     obtain ⟨j,hj,hj2⟩:=bJ.mp c2
     have hnd:=(List.nodup_append.mp hwk.nd).2.1
     refine ⟨_,DGet.k (k:=Sum.inl ((it (fall ws) i t:Nat):Int)) xP,?_⟩
     rw [dB,dG c]
     walk_at "wp"
     refine ⟨vI j,?_,?_⟩
     ·have:=DGet.k (k:=Sum.inl ((it (fall ws) i t:Nat):Int)) YG
      rw [dB,←hj2,R0 hnd hj] at this
      rw [←hj2];exact this
     walk_at "wp"
     refine ⟨_,SqL.of hp3,fun u hu=>?_⟩
     have abS:uU ((path (fall ws) i t).map vI) (some (j:Int)) none=((path (fall ws) i t).drop j).map vI:=by rw [qP (by rw [List.length_map,bh];omega),List.map_drop]
     rw [abS]
     refine ⟨((path (fall ws) i t).drop j).map (fun d:Nat=>(d:Int)),SqL.of (by rw [List.map_map];exact upd_same),?_,fun M hM hmin=>?_⟩
     ·intro z
      have h0:=congrArg List.length z
      rw [List.length_map,List.length_drop,bh,List.length_nil] at h0
      omega
     obtain ⟨m,rfl,h1,h2⟩:=Zi hM hmin
     refine fin _ _ _ _ rfl ?_ (List.mem_append_right _ c2) (Same.new hu _ _ xP) (Same.new hu _ _ hp3) (Qq.trans (Same.new hu))
     rw [Xl hb hnd hj hj2 h1 h2]
    ·have c2:it (fall ws) i t ∉ path (fall ws) i t:=fun z=>c2 (decide_eq_true z)
     have hw2:Ox (fall ws) i (ps.map (·.1)) (t+1):=hwk.succ (fun z=>(List.mem_append.mp z).elim c c2)
     have hlen2:=hm2.short hb hi' hw2
     walk_at "wp"
     have hlk:(Dr (fall ws) i t).lookup (it (fall ws) i t)=none:=dG (by rw [Ax];exact c2)
     refine ⟨_,bQ.of hp3,?_⟩
     rw [List.length_map,bh]
     refine ⟨_,DPut.k (k:=Sum.inl ((it (fall ws) i t:Nat):Int)) YG (by rw [sE,WR];exact aX (by omega)),?_⟩
     rw [wD hlk]
     have GR:∀ o,upd H3 q o p=some (.lst ((path (fall ws) i t).map vI)):=fun o=>by rw [upd_ne hpq];exact hp3
     refine ⟨⟨_,SqL.of (GR _)⟩,_,GR _,by rw [List.length_map,bh];exact aX (by omega),?_⟩
     generalize hH4:upd (upd H3 q (.dK (wC (Dr (fall ws) i t++[(it (fall ws) i t,V.int (t:Int))])))) p (.lst ((path (fall ws) i t).map vI++[vI (it (fall ws) i t)]))=H4
     have ZW:Same H2 H4:=fun b o e=>by rw [←hH4,upd_ne (ne_of_none e hp),upd_ne (ne_of_none e ((Same.new (o:=.lst []) hp).free hq))];exact hs3 _ _ e
     have GR:H4 p=some (.lst ((path (fall ws) i (t+1)).map vI)):=by rw [←hH4,upd_same,iy,List.map_append];rfl
     have hq4:H4 q=some (.dK (wC (Dr (fall ws) i (t+1)))):=by rw [←hH4,upd_ne hpq.symm,upd_same,Jh]
     exact ⟨a,ws,_,rfl,(hs2.trans ZW).sq hS,hb.two,hb.top,hN' (tp+452 - (t+1)) _ _ (by omega) ⟨t+1,_,_,rfl,hw2,rfl,ZW _ _ hd2,GR,hq4,ZW⟩⟩
  ·rintro σ H2 ⟨ps,v1,v2,v3,v4,v5,v6,rfl,hd2,hm2,hs2⟩
   walk_at "wp"
   exact k d ps H2 hd hd2 hm2 hs2
theorem GX (T:Txt mg) (F:aN K mg "_law_leasts" jU ["_law_row_here"]) (tD:xG P w K mg base):vO P w K mg base:=by
 refine F.aZ uw.2 Du.2 ux (fun vs H Q E h=>?_) (fun f cdv A outer s H vs Q E hr h=>?_) <;> obtain ⟨a,ws,rfl,hS,hb,k⟩:=h
 ·rfl
 ·have hu:=hu_of hr
  refine ⟨_,(ao (aQ (i:=1) ux.nd rfl (Or.inr rfl) (au tD (hr.mono (by decide)) pass0 (aj (qv 0) (aj aB ak))))
   (aq (aG (aA (Qg rfl (Yd hr)) (by rfl) T.NT IV (aj (cV (U3 (K:=K) rfl rfl) (by rfl) T.ac5 abk (aj (CQ (x:="_law_one") ⟨rfl,rfl,rfl,rfl,rfl,rfl,rfl,rfl⟩ rfl (bK rfl T.cJ (aj aB ak)) (fun _ _ _ _=>(wB hu (qv 2) (qv 0) (fun _ _=>rfl))) (fun _ _ _ _=>aW (i:=0) (show (["_law_one","_law_row_here","_law_homes_here"]:List Str).Nodup by decide +kernel) rfl (Or.inl rfl) (.inr rfl))) ak)) ak))))),?_⟩
  walk_at "wp"
  refine ⟨a,ws,460,rfl,hS,hb,by decide,fun d ps H1 hd hd1 hms h1=>?_⟩
  walk_at "wp"
  refine Ze.map (f:=fun n=>vI (hm (fall ws) n)) (aX (by decide)) (fun n H2 R hn h2 hR=>?_) (fun p H2 hp hp2 h2=>?_)
  ·walk_at "wp"
   have:=DGet.k (k:=Sum.inl ((n:Nat):Int)) (h2 _ _ hd1)
   rw [dB,hms.get hn] at this
   exact ⟨_,this,hR _ (Same.refl _)⟩
  ·refine Qh (ns:=Hx ws 460) rfl rfl (SqL.of (by rw [abG];exact hp2)) (by rw [Xu];decide) (fun ms nd hs=>Xv hb nd hs) (fun out l H3 ho hm' hl hl3 h3=>k l H3 ((h1.trans h2).free hl) ?_ ((h1.trans h2).trans h3))
   rw [hl3,Xw hb (fun M hM=>by have:=Zu hM;omega) ho hm',wX]
theorem GZ (T:Txt mg) (F:aN K mg "_law_firsts" jV ["_law_found"]) :vP P w K mg base:=by
 refine F.aZ uy.2 Dv.2 kI (fun vs H Q E h=>?_) (fun f cdv A outer s H vs Q E hr h=>?_) <;> obtain ⟨l,out,rfl,hl,ho,hz,k⟩:=h
 ·rfl
 ·have hu:=hu_of hr
  refine ⟨_,(ao (aQ (i:=1) kI.nd rfl (Or.inl rfl) (eV ak))
   (ao (aV (bC (aA aP (by rfl) T.aF aD (aj (qv 0) (aj (bF T.bW bH) ak)))) (aq (bL PassesOwn.never rfl (iw (qv 0)) (aW (i:=2) kI.nd rfl (Or.inl rfl)) (aq (aV (J4 (bC (aA aP (by rfl) T.aF aD (aj (qv 2) (aj (bF T.bW bH) ak)))) (Es (aK oX (aA aM (by rfl) T.cF PySem.boot_len (aj (qv 2) ak)) aB (nomark _)))).qt (aq (aY (iJ (K:=K) rfl PySem.F.plainAttrs_list PySem.F.slot_list_append PySem.F.type_list_append bN (qv 1) (aj (bY cD (qv 2) aB (fun _ _=>rfl)) ak)))) aO)))) aO)
   (aq (aG (qv 1))))),?_⟩
  walk_at "wp"
  refine ⟨by decide,fun q hq=>⟨true,rT (Same.new hq _ _ hl),?_⟩⟩
  walk_at "wp"
  refine pU.at (xs:=out.map fun p=>V.ref p.1) (bQ.of (Same.new hq _ _ hl)) (fun i σ H2=>i≤out.length∧∃ v1,σ=[some (.ref l),some (.ref q),v1]∧H2 q=some (.lst ((out.take i).map fun p=>V.int (p.2.headD 0)))∧Same H H2) ⟨Nat.zero_le _,none,rfl,upd_same,Same.new hq⟩ ?_ ?_ ?_
  ·rintro i σ H2 _ ⟨_,v1,rfl,_,h2⟩ o e
   rw [Same.new hq _ _ hl] at e
   cases e
   exact h2 _ _ hl
  ·rintro i x σ H2 N hx ⟨hi,v1,rfl,hq2,h2⟩ hN
   rw [List.getElem?_map,Option.map_eq_some_iff] at hx
   obtain ⟨r,hr,rfl⟩:=hx
   obtain ⟨hne,hr1⟩:=ho r (List.mem_of_getElem? hr)
   have hr2:=h2 _ _ hr1
   have hil:i<out.length:=(List.getElem?_eq_some_iff.mp hr).1
   walk_at "wp"
   refine ⟨true,rT hr2,?_⟩
   walk_at "wp"
   refine ⟨_,bQ.of hr2,?_⟩
   rw [List.length_map,if_pos (by have:=List.length_pos_iff.mpr hne;omega)]
   have hd:(r.2.map V.int)[0]? = some (.int (r.2.headD 0)):=by
    cases e:r.2 with
    | nil=>exact absurd e hne
    | cons x y=>rfl
   refine ⟨⟨_,SqL.of hq2⟩,_,bQ.of hr2,_,atI_nat (j:=0) hd,_,hq2,by rw [List.length_map,List.length_take];exact aX (by omega),hN _ _ ⟨by omega,_,rfl,?_,fun b o e=>by rw [upd_ne (ne_of_none e hq)];exact h2 _ _ e⟩⟩
   rw [upd_same,List.take_add_one,hr,List.map_append];rfl
  ·rintro σ H2 ⟨_,v1,rfl,hq2,h2⟩
   rw [List.length_map,List.take_of_length_le (Nat.le_refl _)] at hq2
   walk_at "wp"
   exact k q H2 hq hq2 h2
theorem Ce (T:Txt mg) (F:aN K mg "_law_alike" fO ["_law_one","_law_other"]) (aU:dY P w K mg base):rm P w K mg base:=by
 refine F.aZ iT.2 nF.2 dI (fun vs H Q E h=>?_) (fun f cdv A outer s H vs Q E hr h=>?_) <;> obtain ⟨v,rfl,hf,k⟩:=h
 ·rfl
 ·have hu:=hu_of hr
  refine ⟨_,(ao (aV (dX (aK gA (qv 0) iH (nomark _)) (cM (aK gA (qv 1) iH (nomark _)))).qt (aq (aG (eU (fM gA (qv 0) iH (nomark _)) (m9 (fM gA (qv 1) iH (nomark _)))))) aO)
   (ao (aV (dX (bC (au aU (hr.mono (by decide)) pass0 (aj (qv 0) ak))) (cM (bC (au aU (hr.mono (by decide)) pass0 (aj (qv 1) ak))))).qt (aq (aG (eU (au aU (hr.mono (by decide)) pass0 (aj (qv 0) ak)) (eU (au aU (hr.mono (by decide)) pass0 (aj (qv 1) ak)) (m9 (fM op_eq (qv 0) (qv 1) (nomark _))))))) aO)
   (ao (aV (dX (bC (aA aP (by rfl) T.aF aD (aj (qv 0) (aj (bF T.ur kj) ak)))) (cM (bC (aA aP (by rfl) T.aF aD (aj (qv 1) (aj (bF T.ur kj) ak)))))).qt (aq (aG (eU (aA aP (by rfl) T.aF aD (aj (qv 0) (aj (bF T.ur kj) ak))) (eU (aA aP (by rfl) T.aF aD (aj (qv 1) (aj (bF T.ur kj) ak))) (m9 (fM op_eq (qv 0) (qv 1) (nomark _))))))) aO)
   (ao (aV (dX (aK op_ne (aA aP (by rfl) T.aF aD (aj (qv 0) (aj (bF T.bW bH) ak))) (aA aP (by rfl) T.aF aD (aj (qv 1) (aj (bF T.bW bH) ak))) (nomark _)) (cM (aK op_ne (aA aP (by rfl) T.aF aD (aj (qv 0) (aj (bF T.cQ bZ) ak))) (aA aP (by rfl) T.aF aD (aj (qv 1) (aj (bF T.cQ bZ) ak))) (nomark _)))).qt (aq (aG dw)) aO)
   (ao (aV (dX (gU (bC (aA jC (by rfl) T.aF aD (aj (qv 0) (aj (rY (aj (bF T.bW bH) (aj (bF T.cQ bZ) ak))) ak))))) (cM (aK op_ne (aA aM (by rfl) T.cF PySem.boot_len (aj (qv 0) ak)) (aA aM (by rfl) T.cF PySem.boot_len (aj (qv 1) ak)) (nomark _)))).qt (aq (aG dw)) aO)
   (ao (bL PassesOwn.never rfl (bK rfl T.cJ (aj (aA aM (by rfl) T.cF PySem.boot_len (aj (qv 0) ak)) ak)) (aW (i:=2) dI.nd rfl (Or.inl rfl)) (aq (aV (gU (bC (au (F.dead (CX:=CX0) (k:=0)) (hr.mono (by decide)) pass0 (aj (bY cD (qv 0) (qv 2) (fun _ _=>rfl)) (aj (bY cD (qv 1) (qv 2) (fun _ _=>rfl)) ak))))) (aq (aG dw)) aO)))
   (aq (aG dw)))))))),?_⟩
  cases v with
  | non =>
   walk_at "wp"
   exact k
  | int i =>
   walk_at "wp"
   refine ⟨_,rfl,.inl ⟨_,rfl,?_⟩⟩
   walk_at "wp"
   refine ⟨_,rfl,.inl ⟨_,rfl,?_⟩⟩
   walk_at "wp"
   refine ⟨_,rfl,.inl ⟨_,rfl,?_⟩⟩
   walk_at "wp"
   exact k
  | str z =>
   walk_at "wp"
   refine ⟨_,rfl,.inr ⟨"str",rfl,.inl rfl,?_⟩⟩
   walk_at "wp"
   refine ⟨_,rfl,.inr ⟨"str",rfl,.inl rfl,?_⟩⟩
   walk_at "wp"
   exact k
  | _=>cases hf
theorem Cg (T:Txt mg) (F:aN K mg "_law_alike" fO ["_law_one","_law_other"]) (kO:rm P w K mg base) (aU:dY P w K mg base):rA P w K mg base:=by
 refine F.aZ iT.2 nF.2 dI (fun vs H Q E h=>?_) (fun f cdv A outer s H vs Q E hr h=>?_) <;> obtain ⟨v,w,c,rfl,h1,h2,k⟩:=h
 ·rfl
 ·have hu:=hu_of hr
  refine ⟨_,(ao (aV (dX (aK gA (qv 0) iH (nomark _)) (cM (aK gA (qv 1) iH (nomark _)))).qt (aq (aG (eU (fM gA (qv 0) iH (nomark _)) (m9 (fM gA (qv 1) iH (nomark _)))))) aO)
   (ao (aV (dX (bC (au aU (hr.mono (by decide)) pass0 (aj (qv 0) ak))) (cM (bC (au aU (hr.mono (by decide)) pass0 (aj (qv 1) ak))))).qt (aq (aG (eU (au aU (hr.mono (by decide)) pass0 (aj (qv 0) ak)) (eU (au aU (hr.mono (by decide)) pass0 (aj (qv 1) ak)) (m9 (fM op_eq (qv 0) (qv 1) (nomark _))))))) aO)
   (ao (aV (dX (bC (aA aP (by rfl) T.aF aD (aj (qv 0) (aj (bF T.ur kj) ak)))) (cM (bC (aA aP (by rfl) T.aF aD (aj (qv 1) (aj (bF T.ur kj) ak)))))).qt (aq (aG (eU (aA aP (by rfl) T.aF aD (aj (qv 0) (aj (bF T.ur kj) ak))) (eU (aA aP (by rfl) T.aF aD (aj (qv 1) (aj (bF T.ur kj) ak))) (m9 (fM op_eq (qv 0) (qv 1) (nomark _))))))) aO)
   (ao (aV (dX (aK op_ne (aA aP (by rfl) T.aF aD (aj (qv 0) (aj (bF T.bW bH) ak))) (aA aP (by rfl) T.aF aD (aj (qv 1) (aj (bF T.bW bH) ak))) (nomark _)) (cM (aK op_ne (aA aP (by rfl) T.aF aD (aj (qv 0) (aj (bF T.cQ bZ) ak))) (aA aP (by rfl) T.aF aD (aj (qv 1) (aj (bF T.cQ bZ) ak))) (nomark _)))).qt (aq (aG dw)) aO)
   (ao (aV (dX (gU (bC (aA jC (by rfl) T.aF aD (aj (qv 0) (aj (rY (aj (bF T.bW bH) (aj (bF T.cQ bZ) ak))) ak))))) (cM (aK op_ne (aA aM (by rfl) T.cF PySem.boot_len (aj (qv 0) ak)) (aA aM (by rfl) T.cF PySem.boot_len (aj (qv 1) ak)) (nomark _)))).qt (aq (aG dw)) aO)
   (ao (bL PassesOwn.never rfl (bK rfl T.cJ (aj (aA aM (by rfl) T.cF PySem.boot_len (aj (qv 0) ak)) ak)) (aW (i:=2) dI.nd rfl (Or.inl rfl)) (aq (aV (gU (bC (au kO (hr.mono (by decide)) pass0 (aj (bY cD (qv 0) (qv 2) (fun _ _=>rfl)) (aj (bY cD (qv 1) (qv 2) (fun _ _=>rfl)) ak))))) (aq (aG dw)) aO)))
   (aq (aG dw)))))))),?_⟩
  rcases c with c | ⟨b,cs⟩
  ·obtain ⟨e1,hf⟩:=h1
   obtain ⟨e2,_⟩:=h2
   have e:w=v:=e2.trans e1.symm
   clear e1 e2
   rw [e]
   cases v with
   | non =>
    walk_at "wp"
    exact k _ (Same.refl _)
   | int i =>
    walk_at "wp"
    refine ⟨_,rfl,.inl ⟨_,rfl,?_⟩⟩
    walk_at "wp"
    refine ⟨_,rfl,.inl ⟨_,rfl,?_⟩⟩
    walk_at "wp"
    refine ⟨_,rfl,.inl ⟨_,rfl,?_⟩⟩
    walk_at "wp"
    exact k _ (Same.refl _)
   | str z =>
    walk_at "wp"
    refine ⟨_,rfl,.inr ⟨"str",rfl,.inl rfl,?_⟩⟩
    walk_at "wp"
    refine ⟨_,rfl,.inr ⟨"str",rfl,.inl rfl,?_⟩⟩
    walk_at "wp"
    exact k _ (Same.refl _)
   | _=>cases hf
  ·obtain ⟨a,xs,rfl,_,ha,hla,hba,hxa⟩:=h1
   obtain ⟨a2,ys,rfl,_,ha2,aek,ZX,abU⟩:=h2
   have tw:∀ (X:Hp),Same H X→Fe X (.ref a)=some (if b then "list" else "tuple")∧Fe X (.ref a2)=some (if b then "list" else "tuple"):=fun X s=>⟨iQ (s _ _ ha),iQ (s _ _ ha2)⟩
   obtain ⟨t,ht⟩:∃ t,t=(if b then "list" else "tuple"):=⟨_,rfl⟩
   have tc:t = "str"∨t = "list"∨t = "tuple"∨t = "NoneType":=by cases b <;> simp [ht]
   obtain ⟨b1,b2,i0,i1,i2,i3⟩:∃ b1 b2,gn t "str" = some false∧gn t "list" = some b1∧gn t "tuple" = some b2∧(b1 || b2)=true:=by
    cases b with
    | true=>rw [ht];exact ⟨true,false,rfl,rfl,rfl,rfl⟩
    | false=>rw [ht];exact ⟨false,true,rfl,rfl,rfl,rfl⟩
   rw [←ht] at tw
   obtain ⟨t1,t2⟩:=tw H (Same.refl _)
   walk_at "wp"
   refine ⟨_,rfl,.inr ⟨t,t1,tc,?_⟩⟩
   walk_at "wp"
   refine ⟨_,rfl,.inr ⟨t,t2,tc,?_⟩⟩
   walk_at "wp"
   refine ⟨_,cN t1 i0,?_⟩
   walk_at "wp"
   refine ⟨_,cN t2 i0,?_⟩
   walk_at "wp"
   refine ⟨_,cN t1 i1,_,cN t2 i1,?_⟩
   refine ⟨by cases b1 <;> rfl,?_⟩
   rw [decide_eq_true rfl]
   walk_at "wp"
   refine ⟨_,cN t1 i2,_,cN t2 i2,?_⟩
   refine ⟨by cases b2 <;> rfl,?_⟩
   rw [decide_eq_true rfl]
   walk_at "wp"
   refine ⟨by decide,fun p hp=>?_⟩
   have s1:=Same.new (o:=.tup [.ty "list",.ty "tuple"]) hp
   have p1:=upd_same (H:=H) (a:=p) (o:=.tup [.ty "list",.ty "tuple"])
   generalize upd H p (.tup [.ty "list",.ty "tuple"])=H1 at s1 p1
   refine nD p1 (tw H1 s1).1 i1 i2 ?_
   rw [i3]
   walk_at "wp"
   refine ⟨_,dD (s1 _ _ ha),_,dD (s1 _ _ ha2),?_⟩
   rw [if_pos (by omega)]
   refine ⟨_,dD (s1 _ _ ha),?_⟩
   refine ⟨by omega,by omega,mj.go (fun i σ H2=>(∃ v,σ=[some (.ref a),some (.ref a2),v])∧Same H1 H2) ⟨⟨none,rfl⟩,Same.refl _⟩ ?_ ?_⟩
   ·rintro i σ H2 N hi ⟨⟨v,rfl⟩,s2⟩ hN
    have Z0:=s1.trans s2
    obtain ⟨x,hx⟩:∃ x,xs[i]? = some x:=⟨_,List.getElem?_eq_getElem (by omega)⟩
    obtain ⟨y,hy⟩:∃ y,ys[i]? = some y:=⟨_,List.getElem?_eq_getElem (by omega)⟩
    obtain ⟨c,hc⟩:∃ c,cs[i]? = some c:=⟨_,List.getElem?_eq_getElem (by omega)⟩
    have r1:=(hxa i x c hx hc).same Z0
    have r2:=(abU i y c hy hc).same Z0
    walk_at "wp"
    refine ⟨_,dD (Z0 _ _ ha),_,atI_nat hx,_,dD (Z0 _ _ ha2),_,atI_nat hy,?_⟩
    obtain ⟨e1,hf⟩:=r1
    obtain ⟨e2,_⟩:=r2
    rw [show y=x from e2.trans e1.symm]
    have s3:Same H2 H2:=Same.refl _
    refine ⟨_,rfl,hf,?_⟩
    walk_at "wp"
    exact hN _ _ ⟨⟨_,rfl⟩,s2.trans s3⟩
   ·rintro σ H2 ⟨⟨v,rfl⟩,s2⟩
    walk_at "wp"
    exact k _ (s1.trans s2)
theorem Ci (T:Txt mg) (F:aN K mg "_law_alike" fO ["_law_one","_law_other"]) (kW:rA P w K mg base) (aU:dY P w K mg base):rB P w K mg base:=by
 refine F.aZ iT.2 nF.2 dI (fun vs H Q E h=>?_) (fun f cdv A outer s H vs Q E hr h=>?_) <;> obtain ⟨v,w,c,rfl,h1,h2,k⟩:=h
 ·rfl
 ·have hu:=hu_of hr
  refine ⟨_,(ao (aV (dX (aK gA (qv 0) iH (nomark _)) (cM (aK gA (qv 1) iH (nomark _)))).qt (aq (aG (eU (fM gA (qv 0) iH (nomark _)) (m9 (fM gA (qv 1) iH (nomark _)))))) aO)
   (ao (aV (dX (bC (au aU (hr.mono (by decide)) pass0 (aj (qv 0) ak))) (cM (bC (au aU (hr.mono (by decide)) pass0 (aj (qv 1) ak))))).qt (aq (aG (eU (au aU (hr.mono (by decide)) pass0 (aj (qv 0) ak)) (eU (au aU (hr.mono (by decide)) pass0 (aj (qv 1) ak)) (m9 (fM op_eq (qv 0) (qv 1) (nomark _))))))) aO)
   (ao (aV (dX (bC (aA aP (by rfl) T.aF aD (aj (qv 0) (aj (bF T.ur kj) ak)))) (cM (bC (aA aP (by rfl) T.aF aD (aj (qv 1) (aj (bF T.ur kj) ak)))))).qt (aq (aG (eU (aA aP (by rfl) T.aF aD (aj (qv 0) (aj (bF T.ur kj) ak))) (eU (aA aP (by rfl) T.aF aD (aj (qv 1) (aj (bF T.ur kj) ak))) (m9 (fM op_eq (qv 0) (qv 1) (nomark _))))))) aO)
   (ao (aV (dX (aK op_ne (aA aP (by rfl) T.aF aD (aj (qv 0) (aj (bF T.bW bH) ak))) (aA aP (by rfl) T.aF aD (aj (qv 1) (aj (bF T.bW bH) ak))) (nomark _)) (cM (aK op_ne (aA aP (by rfl) T.aF aD (aj (qv 0) (aj (bF T.cQ bZ) ak))) (aA aP (by rfl) T.aF aD (aj (qv 1) (aj (bF T.cQ bZ) ak))) (nomark _)))).qt (aq (aG dw)) aO)
   (ao (aV (dX (gU (bC (aA jC (by rfl) T.aF aD (aj (qv 0) (aj (rY (aj (bF T.bW bH) (aj (bF T.cQ bZ) ak))) ak))))) (cM (aK op_ne (aA aM (by rfl) T.cF PySem.boot_len (aj (qv 0) ak)) (aA aM (by rfl) T.cF PySem.boot_len (aj (qv 1) ak)) (nomark _)))).qt (aq (aG dw)) aO)
   (ao (bL PassesOwn.never rfl (bK rfl T.cJ (aj (aA aM (by rfl) T.cF PySem.boot_len (aj (qv 0) ak)) ak)) (aW (i:=2) dI.nd rfl (Or.inl rfl)) (aq (aV (gU (bC (au kW (hr.mono (by decide)) pass0 (aj (bY cD (qv 0) (qv 2) (fun _ _=>rfl)) (aj (bY cD (qv 1) (qv 2) (fun _ _=>rfl)) ak))))) (aq (aG dw)) aO)))
   (aq (aG dw)))))))),?_⟩
  rcases c with c | ⟨b,cs⟩
  ·obtain ⟨e1,hf⟩:=h1
   obtain ⟨e2,_⟩:=h2
   have e:w=v:=e2.trans e1.symm
   clear e1 e2
   rw [e]
   cases v with
   | non =>
    walk_at "wp"
    exact k _ (Same.refl _)
   | int i =>
    walk_at "wp"
    refine ⟨_,rfl,.inl ⟨_,rfl,?_⟩⟩
    walk_at "wp"
    refine ⟨_,rfl,.inl ⟨_,rfl,?_⟩⟩
    walk_at "wp"
    refine ⟨_,rfl,.inl ⟨_,rfl,?_⟩⟩
    walk_at "wp"
    exact k _ (Same.refl _)
   | str z =>
    walk_at "wp"
    refine ⟨_,rfl,.inr ⟨"str",rfl,.inl rfl,?_⟩⟩
    walk_at "wp"
    refine ⟨_,rfl,.inr ⟨"str",rfl,.inl rfl,?_⟩⟩
    walk_at "wp"
    exact k _ (Same.refl _)
   | _=>cases hf
  ·obtain ⟨a,xs,rfl,_,ha,hla,hba,hxa⟩:=h1
   obtain ⟨a2,ys,rfl,_,ha2,aek,ZX,abU⟩:=h2
   have tw:∀ (X:Hp),Same H X→Fe X (.ref a)=some (if b then "list" else "tuple")∧Fe X (.ref a2)=some (if b then "list" else "tuple"):=fun X s=>⟨iQ (s _ _ ha),iQ (s _ _ ha2)⟩
   obtain ⟨t,ht⟩:∃ t,t=(if b then "list" else "tuple"):=⟨_,rfl⟩
   have tc:t = "str"∨t = "list"∨t = "tuple"∨t = "NoneType":=by cases b <;> simp [ht]
   obtain ⟨b1,b2,i0,i1,i2,i3⟩:∃ b1 b2,gn t "str" = some false∧gn t "list" = some b1∧gn t "tuple" = some b2∧(b1 || b2)=true:=by
    cases b with
    | true=>rw [ht];exact ⟨true,false,rfl,rfl,rfl,rfl⟩
    | false=>rw [ht];exact ⟨false,true,rfl,rfl,rfl,rfl⟩
   rw [←ht] at tw
   obtain ⟨t1,t2⟩:=tw H (Same.refl _)
   walk_at "wp"
   refine ⟨_,rfl,.inr ⟨t,t1,tc,?_⟩⟩
   walk_at "wp"
   refine ⟨_,rfl,.inr ⟨t,t2,tc,?_⟩⟩
   walk_at "wp"
   refine ⟨_,cN t1 i0,?_⟩
   walk_at "wp"
   refine ⟨_,cN t2 i0,?_⟩
   walk_at "wp"
   refine ⟨_,cN t1 i1,_,cN t2 i1,?_⟩
   refine ⟨by cases b1 <;> rfl,?_⟩
   rw [decide_eq_true rfl]
   walk_at "wp"
   refine ⟨_,cN t1 i2,_,cN t2 i2,?_⟩
   refine ⟨by cases b2 <;> rfl,?_⟩
   rw [decide_eq_true rfl]
   walk_at "wp"
   refine ⟨by decide,fun p hp=>?_⟩
   have s1:=Same.new (o:=.tup [.ty "list",.ty "tuple"]) hp
   have p1:=upd_same (H:=H) (a:=p) (o:=.tup [.ty "list",.ty "tuple"])
   generalize upd H p (.tup [.ty "list",.ty "tuple"])=H1 at s1 p1
   refine nD p1 (tw H1 s1).1 i1 i2 ?_
   rw [i3]
   walk_at "wp"
   refine ⟨_,dD (s1 _ _ ha),_,dD (s1 _ _ ha2),?_⟩
   rw [if_pos (by omega)]
   refine ⟨_,dD (s1 _ _ ha),?_⟩
   refine ⟨by omega,by omega,mj.go (fun i σ H2=>(∃ v,σ=[some (.ref a),some (.ref a2),v])∧Same H1 H2) ⟨⟨none,rfl⟩,Same.refl _⟩ ?_ ?_⟩
   ·rintro i σ H2 N hi ⟨⟨v,rfl⟩,s2⟩ hN
    have Z0:=s1.trans s2
    obtain ⟨x,hx⟩:∃ x,xs[i]? = some x:=⟨_,List.getElem?_eq_getElem (by omega)⟩
    obtain ⟨y,hy⟩:∃ y,ys[i]? = some y:=⟨_,List.getElem?_eq_getElem (by omega)⟩
    obtain ⟨c,hc⟩:∃ c,cs[i]? = some c:=⟨_,List.getElem?_eq_getElem (by omega)⟩
    have r1:=(hxa i x c hx hc).same Z0
    have r2:=(abU i y c hy hc).same Z0
    walk_at "wp"
    refine ⟨_,dD (Z0 _ _ ha),_,atI_nat hx,_,dD (Z0 _ _ ha2),_,atI_nat hy,?_⟩
    refine ⟨x,y,c,rfl,r1,r2,fun H3 s3=>?_⟩
    walk_at "wp"
    exact hN _ _ ⟨⟨_,rfl⟩,s2.trans s3⟩
   ·rintro σ H2 ⟨⟨v,rfl⟩,s2⟩
    walk_at "wp"
    exact k _ (s1.trans s2)
theorem Cj (T:Txt mg) (F:aN K mg "_law_spoil" fQ ["_law_found"]) :rC P w K mg base:=by
 refine F.aZ iU.2 nG.2 cj (fun vs H Q E h=>?_) (fun f cdv A outer s H vs Q E hr h=>?_) <;> obtain ⟨v,rfl,hf,k⟩:=h
 ·rfl
 ·have hu:=hu_of hr
  refine ⟨_,(ao (aV (bC (aA jC (by rfl) T.aF aD (aj (qv 0) (aj (rY (aj (bF T.bW bH) (aj (bF T.cQ bZ) ak))) ak)))) (aq (bL PassesOwn.never rfl (iw (qv 0)) (aW (i:=1) cj.nd rfl (Or.inl rfl)) (aq (aY (au (F.dead (CX:=CX0) (k:=0)) (hr.mono (by decide)) pass0 (aj (qv 1) ak)))))) aO)
   (ao (aV (bC (aA aP (by rfl) T.aF aD (aj (qv 0) (aj (bF T.bW bH) ak)))) (ao (bL PassesOwn.never rfl (bK rfl T.cJ (aj (aA aM (by rfl) T.cF PySem.boot_len (aj (qv 0) ak)) ak)) (aW (i:=2) cj.nd rfl (Or.inl rfl)) (aq (Fj aB (Fl (qv 0) (qv 2) set_list))))
   (aq (aY (iJ (K:=K) rfl PySem.F.plainAttrs_list PySem.F.slot_list_append PySem.F.type_list_append bN (qv 0) (aj (Ww O1 aB) ak))))) aO)
   (aq (aG dw)))),?_⟩
  walk_at "wp"
  refine ⟨by decide,fun p hp=>?_⟩
  have s1:=Same.new (o:=.tup [.ty "list",.ty "tuple"]) hp
  have p1:=upd_same (H:=H) (a:=p) (o:=.tup [.ty "list",.ty "tuple"])
  generalize upd H p (.tup [.ty "list",.ty "tuple"])=H1 at s1 p1
  have e:∃ t,Fe H1 v=some t∧gn t "list" = some false∧gn t "tuple" = some false:=by
   cases v with
   | non=>exact ⟨"NoneType",rfl,rfl,rfl⟩
   | int i=>exact ⟨"int",rfl,rfl,rfl⟩
   | str z=>exact ⟨"str",rfl,rfl,rfl⟩
   | _=>cases hf
  obtain ⟨t,e0,e1,e2⟩:=e
  refine nD p1 e0 e1 e2 ?_
  walk_at "wp"
  rw [if_neg (by decide)]
  walk_at "wp"
  refine za (cN e0 e1) ?_
  walk_at "wp"
  exact k _ s1
theorem Ck (T:Txt mg) (F:aN K mg "_law_spoil" fQ ["_law_found"]) (kY:rC P w K mg base):rD P w K mg base:=by
 refine F.aZ iU.2 nG.2 cj (fun vs H Q E h=>?_) (fun f cdv A outer s H vs Q E hr h=>?_) <;> obtain ⟨P,m,v,rfl,hv,hm,k⟩:=h
 ·rfl
 ·have hu:=hu_of hr
  refine ⟨_,(ao (aV (bC (aA jC (by rfl) T.aF aD (aj (qv 0) (aj (rY (aj (bF T.bW bH) (aj (bF T.cQ bZ) ak))) ak)))) (aq (bL PassesOwn.never rfl (iw (qv 0)) (aW (i:=1) cj.nd rfl (Or.inl rfl)) (aq (aY (au kY (hr.mono (by decide)) pass0 (aj (qv 1) ak)))))) aO)
   (ao (aV (bC (aA aP (by rfl) T.aF aD (aj (qv 0) (aj (bF T.bW bH) ak)))) (ao (bL PassesOwn.never rfl (bK rfl T.cJ (aj (aA aM (by rfl) T.cF PySem.boot_len (aj (qv 0) ak)) ak)) (aW (i:=2) cj.nd rfl (Or.inl rfl)) (aq (Fj aB (Fl (qv 0) (qv 2) set_list))))
   (aq (aY (iJ (K:=K) rfl PySem.F.plainAttrs_list PySem.F.slot_list_append PySem.F.type_list_append bN (qv 0) (aj (Ww O1 aB) ak))))) aO)
   (aq (aG dw)))),?_⟩
  rcases hv with hf | ⟨a,rfl,hPa,b,xs,ha,hl,hx⟩
  ·have e:∀ X:Hp,∃ t,Fe X v=some t∧gn t "list" = some false∧gn t "tuple" = some false:=by
    intro X
    cases v with
    | non=>exact ⟨"NoneType",rfl,rfl,rfl⟩
    | int i=>exact ⟨"int",rfl,rfl,rfl⟩
    | str z=>exact ⟨"str",rfl,rfl,rfl⟩
    | _=>cases hf
   walk_at "wp"
   refine ⟨by decide,fun p hp=>?_⟩
   have s1:=Same.new (o:=.tup [.ty "list",.ty "tuple"]) hp
   have p1:=upd_same (H:=H) (a:=p) (o:=.tup [.ty "list",.ty "tuple"])
   generalize upd H p (.tup [.ty "list",.ty "tuple"])=H1 at s1 p1
   obtain ⟨t,e0,e1,e2⟩:=e H1
   refine nD p1 e0 e1 e2 ?_
   walk_at "wp"
   rw [if_neg (by decide)]
   walk_at "wp"
   refine za (cN e0 e1) ?_
   walk_at "wp"
   refine k _ (fun c o _ e=>s1 _ _ e) fun c q ⟨b,xs,h1,h2,h3⟩=>⟨b,xs,s1 _ _ h1,by omega,h3⟩
  ·have hb:∃ b1 b2,gn (if b then "list" else "tuple") "list" = some b1∧gn (if b then "list" else "tuple") "tuple" = some b2∧(b1 || b2)=true:=by
    cases b with
    | true=>exact ⟨true,false,rfl,rfl,rfl⟩
    | false=>exact ⟨false,true,rfl,rfl,rfl⟩
   obtain ⟨b1,b2,i1,i2,i3⟩:=hb
   have fin:∀ H2 H3:Hp,Same H H2→H2 a=some (vm b xs)→(∀ c o,c≠a→H2 c=some o→H3 c=some o)→(∃ ys,H3 a=some (vm b ys)∧ys.length≤xs.length+1∧((b=true∧∀ y∈ys,lV y=true)∨ys=xs))→Q (.bl true) H3:=by
    rintro H2 H3 s2 ha2 f3 ⟨ys,hy1,hy2,Vc⟩
    have hyf:∀ y∈ys,lV y=true:=by
     rcases Vc with z | z
     ·exact z.2
     ·rw [z];exact hx
    refine k H3 (fun c o n e=>?_) fun c q ⟨bb,zs,h1,h2,h3⟩=>?_
    ·by_cases z:c=a
     ·rcases n with n | ⟨zs,n⟩
      ·exact absurd (by rw [z]) n
      ·rw [z] at e ⊢
       rw [ha] at e
       have e:=Option.some.inj e
       rw [n] at e
       cases b with
       | true=>cases e
       | false =>
        rcases Vc with y | y
        ·cases y.1
        ·rw [hy1,y,n,←e]
     ·exact f3 _ _ z (s2 _ _ e)
    by_cases z:c=a
    ·rw [z] at h1 ⊢
     rw [ha] at h1
     refine ⟨b,ys,hy1,?_,hyf⟩
     have:zs.length=xs.length:=by
      cases b <;> cases bb <;> simp [vm] at h1 <;> rw [h1]
     omega
    ·exact ⟨bb,zs,f3 _ _ z (s2 _ _ h1),by omega,h3⟩
   have tail:∀ H2:Hp,H2 a=some (vm b xs)→(∀ H3:Hp,(∀ c o,c≠a→H2 c=some o→H3 c=some o)→(∃ ys,H3 a=some (vm b ys)∧ys.length≤xs.length+1∧((b=true∧∀ y∈ys,lV y=true)∨ys=xs))→Q (.bl true) H3)→∀ v,tSeq (tIfS (tB (tCB J0 (tCons (tVar 0) (tCons (tC (.ty "list")) tNil)))) (tSeq (tFor (Iw (tCons (tCB (Ra K) (tCons (tVar 0) tNil)) tNil)) (gName 2) (tAsg (tC (V.int 7777)) (Vo (tVar 0) (tVar 2) Q0))) (tDrop (tBM K "list" yM (tVar 0) (tCons (tUn (rU fun i=>V.int (-i)) (tC (V.int 1))) tNil)))) tNext) (tRet (tC (V.bl true))) { nx:=fun x H'=>Q V.non H',rt:=Q } [some (.ref a),v,none] H2:=by
    intro H2 ha2 kk v
    cases b with
    | false =>
     walk_at "wp"
     refine ⟨false,cN (iQ ha2) rfl,?_⟩
     walk_at "wp"
     exact kk H2 (fun _ _ _ e=>e) ⟨xs,ha2,by omega,.inr rfl⟩
    | true =>
     walk_at "wp"
     refine ⟨true,rT ha2,?_⟩
     walk_at "wp"
     refine ⟨_,bQ.of ha2,?_⟩
     refine ⟨by omega,by omega,mj.go (fun i σ H3=>(∃ v2,σ=[some (.ref a),v,v2])∧(∃ ys,H3 a=some (.lst ys)∧ys.length=xs.length∧∀ y∈ys.take i,lV y=true)∧∀ c o,c≠a→H2 c=some o→H3 c=some o) ⟨⟨none,rfl⟩,⟨xs,ha2,rfl,fun y hy=>(nomatch hy)⟩,fun _ _ _ e=>e⟩ ?_ ?_⟩
     ·rintro i σ H3 N hi ⟨⟨v2,rfl⟩,⟨ys,Vc,hyl,hyf⟩,f3⟩ hN
      walk_at "wp"
      refine ⟨_,Vc,i,oZ (by omega),hN _ _ ⟨⟨_,rfl⟩,⟨ys.set i (.int 7777),upd_same,by rw [List.length_set];exact hyl,fun y hy=>?_⟩,fun c o n e=>by rw [upd_ne n];exact f3 c o n e⟩⟩
      rw [List.take_add_one,List.getElem?_set_self (by omega)] at hy
      rcases List.mem_append.mp hy with z | z
      ·rw [List.take_set_of_le (Nat.le_refl _)] at z
       exact hyf y z
      ·rw [List.mem_singleton.mp z];rfl
     ·rintro σ H3 ⟨⟨v2,rfl⟩,⟨ys,Vc,hyl,hyf⟩,f3⟩
      rw [←hyl,List.take_length] at hyf
      walk_at "wp"
      refine ⟨⟨_,SqL.of Vc⟩,_,Vc,aX (by omega),?_⟩
      refine kk _ (fun c o n e=>by rw [upd_ne n];exact f3 c o n e) ⟨ys++[.int (-1)],upd_same,by rw [List.length_append,List.length_singleton];omega,.inl ⟨rfl,fun y hy=>?_⟩⟩
      rcases List.mem_append.mp hy with z | z
      ·exact hyf y z
      ·rw [List.mem_singleton.mp z];rfl
   refine Mh (fun σ H2=>∃ v,σ=[some (.ref a),v,none]∧Same H H2) (fun N hN=>?_) ?_
   ·walk_at "wp"
    refine ⟨by decide,fun p hp=>?_⟩
    have s1:=Same.new (o:=.tup [.ty "list",.ty "tuple"]) hp
    have p1:=upd_same (H:=H) (a:=p) (o:=.tup [.ty "list",.ty "tuple"])
    generalize upd H p (.tup [.ty "list",.ty "tuple"])=H1 at s1 p1
    refine nD p1 (iQ (s1 _ _ ha)) i1 i2 ?_
    rw [i3]
    walk_at "wp"
    refine pU.go (dD (s1 _ _ ha)) (fun i σ H2=>(∃ v,σ=[some (.ref a),v,none])∧Same H1 H2) ⟨⟨none,rfl⟩,Same.refl _⟩ (fun i σ H2 _ h=>h.2) ?_ ?_
    ·rintro i x σ H2 N2 hxi ⟨⟨v,rfl⟩,s2⟩ Vb
     walk_at "wp"
     exact ⟨x,rfl,hx x (List.mem_of_getElem? hxi),fun H3 s3=>Vb _ _ ⟨⟨_,rfl⟩,s2.trans s3⟩⟩
    ·rintro σ H2 ⟨⟨v,rfl⟩,s2⟩
     exact hN _ _ ⟨v,rfl,s1.trans s2⟩
   ·rintro σ H2 ⟨v,rfl,s2⟩
    exact tail H2 (s2 _ _ ha) (fun H3 f3 hy=>fin H2 H3 s2 (s2 _ _ ha) f3 hy) v
theorem Cm (T:Txt mg) (F:aN K mg "_law_spoil" fQ ["_law_found"]) (kZ:rD P w K mg base):rE P w K mg base:=by
 refine F.aZ iU.2 nG.2 cj (fun vs H Q E h=>?_) (fun f cdv A outer s H vs Q E hr h=>?_) <;> obtain ⟨P,v,rfl,hv,k⟩:=h
 ·rfl
 ·have hu:=hu_of hr
  refine ⟨_,(ao (aV (bC (aA jC (by rfl) T.aF aD (aj (qv 0) (aj (rY (aj (bF T.bW bH) (aj (bF T.cQ bZ) ak))) ak)))) (aq (bL PassesOwn.never rfl (iw (qv 0)) (aW (i:=1) cj.nd rfl (Or.inl rfl)) (aq (aY (au kZ (hr.mono (by decide)) pass0 (aj (qv 1) ak)))))) aO)
   (ao (aV (bC (aA aP (by rfl) T.aF aD (aj (qv 0) (aj (bF T.bW bH) ak)))) (ao (bL PassesOwn.never rfl (bK rfl T.cJ (aj (aA aM (by rfl) T.cF PySem.boot_len (aj (qv 0) ak)) ak)) (aW (i:=2) cj.nd rfl (Or.inl rfl)) (aq (Fj aB (Fl (qv 0) (qv 2) set_list))))
   (aq (aY (iJ (K:=K) rfl PySem.F.plainAttrs_list PySem.F.slot_list_append PySem.F.type_list_append bN (qv 0) (aj (Ww O1 aB) ak))))) aO)
   (aq (aG dw)))),?_⟩
  obtain ⟨a,b,xs,rfl,hPa,ha,hl,hx⟩:=hv
  have hb:∃ b1 b2,gn (if b then "list" else "tuple") "list" = some b1∧gn (if b then "list" else "tuple") "tuple" = some b2∧(b1 || b2)=true:=by
   cases b with
   | true=>exact ⟨true,false,rfl,rfl,rfl⟩
   | false=>exact ⟨false,true,rfl,rfl,rfl⟩
  obtain ⟨b1,b2,i1,i2,i3⟩:=hb
  have tail:∀ H2:Hp,H2 a=some (vm b xs)→(∀ H3:Hp,(∀ c o,c≠a→H2 c=some o→H3 c=some o)→(∃ ys,H3 a=some (vm b ys)∧ys.length≤xs.length+1∧((b=true∧∀ y∈ys,lV y=true)∨ys=xs))→Q (.bl true) H3)→∀ v,tSeq (tIfS (tB (tCB J0 (tCons (tVar 0) (tCons (tC (.ty "list")) tNil)))) (tSeq (tFor (Iw (tCons (tCB (Ra K) (tCons (tVar 0) tNil)) tNil)) (gName 2) (tAsg (tC (V.int 7777)) (Vo (tVar 0) (tVar 2) Q0))) (tDrop (tBM K "list" yM (tVar 0) (tCons (tUn (rU fun i=>V.int (-i)) (tC (V.int 1))) tNil)))) tNext) (tRet (tC (V.bl true))) { nx:=fun x H'=>Q V.non H',rt:=Q } [some (.ref a),v,none] H2:=by
   intro H2 ha2 kk v
   cases b with
   | false =>
    walk_at "wp"
    refine ⟨false,cN (iQ ha2) rfl,?_⟩
    walk_at "wp"
    exact kk H2 (fun _ _ _ e=>e) ⟨xs,ha2,by omega,.inr rfl⟩
   | true =>
    walk_at "wp"
    refine ⟨true,rT ha2,?_⟩
    walk_at "wp"
    refine ⟨_,bQ.of ha2,?_⟩
    refine ⟨by omega,by omega,mj.go (fun i σ H3=>(∃ v2,σ=[some (.ref a),v,v2])∧(∃ ys,H3 a=some (.lst ys)∧ys.length=xs.length∧∀ y∈ys.take i,lV y=true)∧∀ c o,c≠a→H2 c=some o→H3 c=some o) ⟨⟨none,rfl⟩,⟨xs,ha2,rfl,fun y hy=>(nomatch hy)⟩,fun _ _ _ e=>e⟩ ?_ ?_⟩
    ·rintro i σ H3 N hi ⟨⟨v2,rfl⟩,⟨ys,Vc,hyl,hyf⟩,f3⟩ hN
     walk_at "wp"
     refine ⟨_,Vc,i,oZ (by omega),hN _ _ ⟨⟨_,rfl⟩,⟨ys.set i (.int 7777),upd_same,by rw [List.length_set];exact hyl,fun y hy=>?_⟩,fun c o n e=>by rw [upd_ne n];exact f3 c o n e⟩⟩
     rw [List.take_add_one,List.getElem?_set_self (by omega)] at hy
     rcases List.mem_append.mp hy with z | z
     ·rw [List.take_set_of_le (Nat.le_refl _)] at z
      exact hyf y z
     ·rw [List.mem_singleton.mp z];rfl
    ·rintro σ H3 ⟨⟨v2,rfl⟩,⟨ys,Vc,hyl,hyf⟩,f3⟩
     rw [←hyl,List.take_length] at hyf
     walk_at "wp"
     refine ⟨⟨_,SqL.of Vc⟩,_,Vc,aX (by omega),?_⟩
     refine kk _ (fun c o n e=>by rw [upd_ne n];exact f3 c o n e) ⟨ys++[.int (-1)],upd_same,by rw [List.length_append,List.length_singleton];omega,.inl ⟨rfl,fun y hy=>?_⟩⟩
     rcases List.mem_append.mp hy with z | z
     ·exact hyf y z
     ·rw [List.mem_singleton.mp z];rfl
  refine Mh (fun σ H2=>∃ v,σ=[some (.ref a),v,none]∧H2 a=some (vm b xs)∧wY P H H2) (fun N hN=>?_) ?_
  ·walk_at "wp"
   refine ⟨by decide,fun p hp=>?_⟩
   have s1:=Same.new (o:=.tup [.ty "list",.ty "tuple"]) hp
   have p1:=upd_same (H:=H) (a:=p) (o:=.tup [.ty "list",.ty "tuple"])
   generalize upd H p (.tup [.ty "list",.ty "tuple"])=H1 at s1 p1
   refine nD p1 (iQ (s1 _ _ ha)) i1 i2 ?_
   rw [i3]
   walk_at "wp"
   refine pU.at (dD (s1 _ _ ha)) (fun i σ H2=>i≤xs.length∧(∃ v,σ=[some (.ref a),v,none])∧H2 a=some (vm b xs)∧(∀ x∈xs,Sp1 P (60000+i) H2 x)∧wY P H1 H2) ⟨Nat.zero_le _,⟨none,rfl⟩,s1 _ _ ha,fun x h=>?_,fun _ _ _ e=>e⟩ ?_ ?_ ?_
   ·rcases hx x h with z | ⟨r,e,hr,bb,zs,h1,h2,h3⟩
    ·exact .inl z
    ·exact .inr ⟨r,e,hr.imp id fun ⟨ys,z⟩=>⟨ys,s1 _ _ z⟩,bb,zs,s1 _ _ h1,h2,h3⟩
   ·rintro i σ H2 _ ⟨_,_,ha2,_,_⟩ o e
    rw [s1 _ _ ha] at e
    rw [←e];exact ha2
   ·rintro i x σ H2 N2 hxi ⟨hi,⟨v,rfl⟩,ha2,hS2,f2⟩ Vb
    have Jx:=List.mem_of_getElem? hxi
    have hi2:i<xs.length:=(List.getElem?_eq_some_iff.mp hxi).1
    walk_at "wp"
    refine ⟨P,60000+i,x,rfl,hS2 x Jx,by omega,fun H3 f3 g3=>Vb _ _ ⟨by omega,⟨_,rfl⟩,?_,fun y hy=>?_,f2.trans fun c o n e=>?_⟩⟩
    ·refine f3 _ _ (.inl fun z=>?_) ha2
     rcases hS2 x Jx with q | ⟨r,e,hr,bb,zs,h1,h2,h3⟩
     ·rw [z] at q;cases q
     ·rw [z] at e
      obtain rfl:=V.ref.inj e
      rw [ha2] at h1
      have:zs=xs:=by cases b <;> cases bb <;> simp [vm] at h1 <;> rw [h1]
      rw [this] at h3
      have:=h3 x Jx
      rw [z] at this;cases this
    ·rcases hS2 y hy with q | ⟨r,e,hr,q⟩
     ·exact .inl q
     ·exact .inr ⟨r,e,hr.imp id fun ⟨zs,z⟩=>⟨zs,f3 _ _ (.inr ⟨zs,rfl⟩) z⟩,g3 r _ q⟩
    ·by_cases z:x=.ref c
     ·rcases hS2 x Jx with q | ⟨r,e',hr,_⟩
      ·rw [z] at q;cases q
      ·rw [z] at e'
       obtain rfl:=V.ref.inj e'
       rcases hr with hr | ⟨zs,hr⟩
       ·exact absurd hr n
       ·exact f3 _ _ (.inr ⟨zs,by rw [e] at hr;exact Option.some.inj hr⟩) e
     ·exact f3 _ _ (.inl z) e
   ·rintro σ H2 ⟨_,⟨v,rfl⟩,ha2,_,f2⟩
    exact hN _ _ ⟨v,rfl,ha2,(wY.same s1).trans f2⟩
  ·rintro σ H2 ⟨v,rfl,ha2,f2⟩
   exact tail H2 ha2 (fun H3 f3 _=>k H3 (f2.trans fun c o n e=>f3 _ _ (fun z=>n (by rw [z];exact hPa)) e)) v
theorem Eh (T:Txt mg) (F:aN K mg "_law_copy" iC ["_law_found"]) :uL P w K mg base:=by
 refine F.aZ jW.2 pW.2 pX (fun vs H Q E h=>?_) (fun f cdv A outer s H vs Q E hr h=>?_) <;> obtain ⟨v,rfl,hf,k⟩:=h
 ·rfl
 ·have hu:=hu_of hr
  refine ⟨_,(ao (aV (bC (aA aP (by rfl) T.aF aD (aj (qv 0) (aj (bF T.bW bH) ak)))) (aq (aG (CQ (x:="_law_one") ⟨rfl,rfl,rfl,rfl,rfl,rfl,rfl,rfl⟩ rfl (iw (qv 0)) (fun _ _ _ _=>(au (F.dead (CX:=CX0) (k:=0)) (hr.mono (by decide)) pass0 (aj (qv 0) ak))) (fun _ _ _ _=>aW (i:=0) (show (["_law_one","_law_found"]:List Str).Nodup by decide +kernel) rfl (Or.inl rfl) (.inr rfl))))) aO)
   (ao (aV (bC (aA aP (by rfl) T.aF aD (aj (qv 0) (aj (bF T.cQ bZ) ak)))) (aq (aG (cV pR (by rfl) T.cQ bZ (aj (CQ (x:="_law_one") ⟨rfl,rfl,rfl,rfl,rfl,rfl,rfl,rfl⟩ rfl (iw (qv 0)) (fun _ _ _ _=>(au (F.dead (CX:=CX0) (k:=0)) (hr.mono (by decide)) pass0 (aj (qv 0) ak))) (fun _ _ _ _=>aW (i:=0) (show (["_law_one","_law_found"]:List Str).Nodup by decide +kernel) rfl (Or.inl rfl) (.inr rfl))) ak)))) aO)
   (aq (aG (qv 0))))),?_⟩
  have e:∃ t,Fe H v=some t∧gn t "list" = some false∧gn t "tuple" = some false:=by
   cases v with
   | non=>exact ⟨"NoneType",rfl,rfl,rfl⟩
   | int i=>exact ⟨"int",rfl,rfl,rfl⟩
   | str z=>exact ⟨"str",rfl,rfl,rfl⟩
   | _=>cases hf
  obtain ⟨t,e0,e1,e2⟩:=e
  walk_at "wp"
  refine za (cN e0 e1) ?_
  walk_at "wp"
  refine za (cN e0 e2) ?_
  walk_at "wp"
  exact k
theorem Ei (T:Txt mg) (F:aN K mg "_law_copy" iC ["_law_found"]) (je:uL P w K mg base):uM P w K mg base:=by
 refine F.aZ jW.2 pW.2 pX (fun vs H Q E h=>?_) (fun f cdv A outer s H vs Q E hr h=>?_) <;> obtain ⟨v,c,rfl,h1,k⟩:=h
 ·rfl
 ·have hu:=hu_of hr
  refine ⟨_,(ao (aV (bC (aA aP (by rfl) T.aF aD (aj (qv 0) (aj (bF T.bW bH) ak)))) (aq (aG (CQ (x:="_law_one") ⟨rfl,rfl,rfl,rfl,rfl,rfl,rfl,rfl⟩ rfl (iw (qv 0)) (fun _ _ _ _=>(au je (hr.mono (by decide)) pass0 (aj (qv 0) ak))) (fun _ _ _ _=>aW (i:=0) (show (["_law_one","_law_found"]:List Str).Nodup by decide +kernel) rfl (Or.inl rfl) (.inr rfl))))) aO)
   (ao (aV (bC (aA aP (by rfl) T.aF aD (aj (qv 0) (aj (bF T.cQ bZ) ak)))) (aq (aG (cV pR (by rfl) T.cQ bZ (aj (CQ (x:="_law_one") ⟨rfl,rfl,rfl,rfl,rfl,rfl,rfl,rfl⟩ rfl (iw (qv 0)) (fun _ _ _ _=>(au je (hr.mono (by decide)) pass0 (aj (qv 0) ak))) (fun _ _ _ _=>aW (i:=0) (show (["_law_one","_law_found"]:List Str).Nodup by decide +kernel) rfl (Or.inl rfl) (.inr rfl))) ak)))) aO)
   (aq (aG (qv 0))))),?_⟩
  rcases c with c | ⟨b,cs⟩
  ·obtain ⟨e1,hf⟩:=h1
   have e:∃ t,Fe H v=some t∧gn t "list" = some false∧gn t "tuple" = some false:=by
    cases v with
    | non=>exact ⟨"NoneType",rfl,rfl,rfl⟩
    | int i=>exact ⟨"int",rfl,rfl,rfl⟩
    | str z=>exact ⟨"str",rfl,rfl,rfl⟩
    | _=>cases hf
   obtain ⟨t,e0,e3,e2⟩:=e
   walk_at "wp"
   refine za (cN e0 e3) ?_
   walk_at "wp"
   refine za (cN e0 e2) ?_
   walk_at "wp"
   exact k _ _ (Same.refl _) ⟨e1,hf⟩
  ·obtain ⟨a,xs,rfl,_,ha,hla,hba,hxa⟩:=h1
   cases b with
   | true =>
    walk_at "wp"
    refine ⟨true,rT ha,?_⟩
    walk_at "wp"
    refine wG (dD ha) hla hba hxa (fun x c H2 S hx hS=>?_) (fun D ys H2 fD s2 hD hl hy=>?_)
    ·walk_at "wp"
     refine ⟨x,rfl,hx.2,hS _ _ (Same.refl _) ⟨hx.1,hx.2⟩⟩
    ·exact k _ _ s2 ⟨D,ys,rfl,fD,hD,hl,by omega,hy⟩
   | false =>
    walk_at "wp"
    refine ⟨false,cN (iQ ha) rfl,?_⟩
    walk_at "wp"
    refine ⟨true,Rg ha,?_⟩
    walk_at "wp"
    refine wG (dD ha) hla hba hxa (fun x c H2 S hx hS=>?_) (fun D ys H2 fD s2 hD hl hy=>?_)
    ·walk_at "wp"
     refine ⟨x,rfl,hx.2,hS _ _ (Same.refl _) ⟨hx.1,hx.2⟩⟩
    ·walk_at "wp"
     refine ⟨_,.inl ⟨SqL.of hD,fun l fl=>?_⟩⟩
     have s3:=s2.trans (Same.new (o:=.tup ys) fl)
     exact k _ _ s3 ⟨l,ys,rfl,Bd s2 fl,upd_same,hl,by omega,fun i y c e1 e2=>(hy i y c e1 e2).same (Same.new fl)⟩
theorem Ej (T:Txt mg) (F:aN K mg "_law_copy" iC ["_law_found"]) (jf:uM P w K mg base):uN P w K mg base:=by
 refine F.aZ jW.2 pW.2 pX (fun vs H Q E h=>?_) (fun f cdv A outer s H vs Q E hr h=>?_) <;> obtain ⟨v,c,rfl,h1,k⟩:=h
 ·rfl
 ·have hu:=hu_of hr
  refine ⟨_,(ao (aV (bC (aA aP (by rfl) T.aF aD (aj (qv 0) (aj (bF T.bW bH) ak)))) (aq (aG (CQ (x:="_law_one") ⟨rfl,rfl,rfl,rfl,rfl,rfl,rfl,rfl⟩ rfl (iw (qv 0)) (fun _ _ _ _=>(au jf (hr.mono (by decide)) pass0 (aj (qv 0) ak))) (fun _ _ _ _=>aW (i:=0) (show (["_law_one","_law_found"]:List Str).Nodup by decide +kernel) rfl (Or.inl rfl) (.inr rfl))))) aO)
   (ao (aV (bC (aA aP (by rfl) T.aF aD (aj (qv 0) (aj (bF T.cQ bZ) ak)))) (aq (aG (cV pR (by rfl) T.cQ bZ (aj (CQ (x:="_law_one") ⟨rfl,rfl,rfl,rfl,rfl,rfl,rfl,rfl⟩ rfl (iw (qv 0)) (fun _ _ _ _=>(au jf (hr.mono (by decide)) pass0 (aj (qv 0) ak))) (fun _ _ _ _=>aW (i:=0) (show (["_law_one","_law_found"]:List Str).Nodup by decide +kernel) rfl (Or.inl rfl) (.inr rfl))) ak)))) aO)
   (aq (aG (qv 0))))),?_⟩
  rcases c with c | ⟨b,cs⟩
  ·obtain ⟨e1,hf⟩:=h1
   have e:∃ t,Fe H v=some t∧gn t "list" = some false∧gn t "tuple" = some false:=by
    cases v with
    | non=>exact ⟨"NoneType",rfl,rfl,rfl⟩
    | int i=>exact ⟨"int",rfl,rfl,rfl⟩
    | str z=>exact ⟨"str",rfl,rfl,rfl⟩
    | _=>cases hf
   obtain ⟨t,e0,e3,e2⟩:=e
   walk_at "wp"
   refine za (cN e0 e3) ?_
   walk_at "wp"
   refine za (cN e0 e2) ?_
   walk_at "wp"
   exact k _ _ (Same.refl _) ⟨e1,hf⟩
  ·obtain ⟨a,xs,rfl,_,ha,hla,hba,hxa⟩:=h1
   cases b with
   | true =>
    walk_at "wp"
    refine ⟨true,rT ha,?_⟩
    walk_at "wp"
    refine wG (dD ha) hla hba hxa (fun x c H2 S hx hS=>?_) (fun D ys H2 fD s2 hD hl hy=>?_)
    ·walk_at "wp"
     exact ⟨x,c,rfl,hx,hS⟩
    ·exact k _ _ s2 ⟨D,ys,rfl,fD,hD,hl,by omega,hy⟩
   | false =>
    walk_at "wp"
    refine ⟨false,cN (iQ ha) rfl,?_⟩
    walk_at "wp"
    refine ⟨true,Rg ha,?_⟩
    walk_at "wp"
    refine wG (dD ha) hla hba hxa (fun x c H2 S hx hS=>?_) (fun D ys H2 fD s2 hD hl hy=>?_)
    ·walk_at "wp"
     exact ⟨x,c,rfl,hx,hS⟩
    ·walk_at "wp"
     refine ⟨_,.inl ⟨SqL.of hD,fun l fl=>?_⟩⟩
     have s3:=s2.trans (Same.new (o:=.tup ys) fl)
     exact k _ _ s3 ⟨l,ys,rfl,Bd s2 fl,upd_same,hl,by omega,fun i y c e1 e2=>(hy i y c e1 e2).same (Same.new fl)⟩
theorem Il (T:Txt mg) (F:aN K mg "fewest_for" mH ["table","worths","total"]) :xH P w K mg base:=by
 refine F.aZ vD.2 Gm.2 nH (fun vs H Q E h=>?_) (fun f cdv A outer s H vs Q E hr h=>?_) <;> obtain ⟨t,a,ws,TB,s,rfl,hS,Ow,ht,hT,k⟩:=h
 ·rfl
 ·have hu:=hu_of hr
  refine ⟨_,(ao (Jm (i:=3) nH.nd rfl rfl ⟨rfl,rfl,rfl,rfl,rfl,rfl,rfl,rfl⟩ rfl (iw (qv 1)) (fun _ _ _ _=>(J4 (aK oX (qv 0) aB (nomark _)) (Es (aK acs (qv 0) (qv 3) (nomark _)))).qt) (fun _ _ _ _=>(bY (J3 (K:=K) rfl) (qv 1) (bf op_sub (qv 3) (qv 0)) (fun _ _=>rfl))) (fun _ _ _ _=>aW (i:=0) (show (["worth","table","worths","total","tried","found"]:List Str).Nodup by decide +kernel) rfl (Or.inl rfl) (.inr rfl)))
   (ao (Jm (i:=4) nH.nd rfl rfl ⟨rfl,rfl,rfl,rfl,rfl,rfl,rfl,rfl⟩ rfl (iw (qv 3)) (fun _ _ _ _=>(aK W5 (qv 0) iH (nomark _))) (fun _ _ _ _=>(qv 0)) (fun _ _ _ _=>aW (i:=0) (show (["many","table","worths","total","tried","found"]:List Str).Nodup by decide +kernel) rfl (Or.inl rfl) (.inr rfl)))
   (aq (aG (Mq (aK oX (aA aM (by rfl) T.cF PySem.boot_len (aj (qv 4) ak)) aB (nomark _)) (bf op_add (aA (Av rfl) (by rfl) T.TQ JZ (aj (qv 4) ak)) aB) iH))))),?_⟩
  walk_at "wp"
  refine LFS.filterMap hS (by rw [List.length_map];exact aX (by omega)) (fun x=>match x with | .int i=>if 0<i.toNat∧i.toNat≤s then some (oV (TB.getD (s - i.toNat) none)) else none | _=>none) (fun i x H2 R hx hsm hR=>?_) (fun i x y H2 R hx hy hsm hR=>?_) (fun D H2 hD hD2 hsm=>?_)
  ·rw [List.getElem?_map,Option.map_eq_some_iff] at hx
   obtain ⟨w,hw,rfl⟩:=hx
   walk_at "wp"
   simp only [vI,Int.toNat_natCast] at hR
   refine ite2 (fun c1=>?_) (fun c1=>?_)
   ·by_cases c2:(w:Int)≤(s:Int)
    ·rw [if_pos (by omega)] at hR
     rw [decide_eq_true c2]
     exact hR
    ·rw [if_neg (by omega)] at hR
     rw [decide_eq_false c2]
     exact hR
   ·rw [if_neg (by omega)] at hR
    exact hR
  ·rw [List.getElem?_map,Option.map_eq_some_iff] at hx
   obtain ⟨w,hw,rfl⟩:=hx
   simp only [vI,Int.toNat_natCast] at hy
   by_cases c:0<w∧w≤s
   ·rw [if_pos c] at hy
    cases hy
    walk_at "wp"
    rw [show (s:Int) - (w:Int)=((s - w:Nat):Int) by omega]
    exact ⟨_,bQ.of (hsm _ _ ht),_,getD_at (by omega),hR _ (Same.refl _)⟩
   ·rw [if_neg c] at hy;cases hy
  ·have e1:(ws.map vI).filterMap (fun x=>match x with | .int i=>if 0<i.toNat∧i.toNat≤s then some (oV (TB.getD (s - i.toNat) none)) else none | _=>none)=(ws.filterMap fun w=>if 0<w∧w≤s then some (TB.getD (s - w) none) else none).map oV:=by
    rw [List.filterMap_map,List.map_filterMap]
    congr 1
    funext w
    simp only [Function.comp,vI,Int.toNat_natCast]
    split <;> rfl
   rw [e1] at hD2
   generalize hU:(ws.filterMap fun w=>if 0<w∧w≤s then some (TB.getD (s - w) none) else none)=U at hD2
   have hUl:U.length≤16:=by rw [←hU];exact Nat.le_trans (List.length_filterMap_le _ _) Ow
   have hUc:U.filterMap id=cand ws TB s:=by
    rw [←hU,List.filterMap_filterMap]
    unfold cand
    congr 1
    funext w
    split <;> simp
   walk_at "wp"
   refine LFS.filterMap (bQ.of hD2) (by rw [List.length_map];exact aX (by omega)) (fun x=>match x with | .non=>none | y=>some y) (fun i x H3 R hx Z1 hR=>?_) (fun i x y H3 R hx hy Z1 hR=>?_) (fun D3 H3 hD3 hD4 Z1=>?_)
   ·rw [List.getElem?_map,Option.map_eq_some_iff] at hx
    obtain ⟨o,ho,rfl⟩:=hx
    cases o with
    | none =>
     walk_at "wp"
     exact hR
    | some n =>
     walk_at "wp"
     exact hR
   ·rw [List.getElem?_map,Option.map_eq_some_iff] at hx
    obtain ⟨o,ho,rfl⟩:=hx
    cases o with
    | none=>cases hy
    | some n =>
     cases hy
     walk_at "wp"
     exact hR _ (Same.refl _)
   ·have e2:(U.map oV).filterMap (fun x=>match x with | .non=>none | y=>some y)=(cand ws TB s).map vI:=by
     rw [←hUc,List.filterMap_map,List.map_filterMap]
     congr 1
     funext o
     cases o <;> rfl
    rw [e2] at hD4
    walk_at "wp"
    refine ⟨_,bQ.of hD4,?_⟩
    rw [List.length_map]
    refine ite2 (fun c=>?_) (fun c=>?_)
    ·refine ⟨(cand ws TB s).map (fun d:Nat=>(d:Int)),SqL.of (by rw [List.map_map];exact hD4),fun z=>?_,fun M hM hmin=>?_⟩
     ·rw [List.map_eq_nil_iff] at z
      rw [z] at c;exact absurd c (by decide)
     ·obtain ⟨m,rfl,hm⟩:=Zg hM hmin
      have:=k H3 (hsm.trans Z1)
      unfold nxt at this
      rw [hm] at this
      exact this
    ·have e3:cand ws TB s=[]:=List.length_eq_zero_iff.mp (by omega)
     have:=k H3 (hsm.trans Z1)
     unfold nxt at this
     rw [e3] at this
     exact this
theorem Oo (T:Txt mg) (F:aN K mg "table_to" sJ ["worths","target"]) (tE:xH P w K mg base):Dj P w K mg base:=by
 refine F.aZ zE.2 KN.2 sO (fun vs H Q E h=>?_) (fun f cdv A outer s H vs Q E hr h=>?_) <;> obtain ⟨a,ws,t,rfl,hS,Ow,ht,k⟩:=h
 ·rfl
 ·have hu:=hu_of hr
  refine ⟨_,(ao (aQ (i:=2) sO.nd rfl (Or.inl rfl) (eV (aj aB ak)))
   (ao (bL PassesOwn.never rfl (Jf rfl T.cJ (aj aB (aj (bf op_add (qv 1) aB) ak))) (aW (i:=3) sO.nd rfl (Or.inl rfl)) (aq (aY (iJ (K:=K) rfl PySem.F.plainAttrs_list PySem.F.slot_list_append PySem.F.type_list_append bN (qv 2) (aj (au tE (hr.mono (by decide)) pass0 (aj (qv 2) (aj (qv 0) (aj (qv 3) ak)))) ak)))))
   (aq (aG (qv 2))))),?_⟩
  walk_at "wp"
  refine ⟨by decide,fun p hp=>⟨by omega,?_⟩⟩
  rw [show ((t:Int)+1 - 1).toNat=t by omega]
  refine mj.go (fun i σ H2=>∃ v,σ=[some (.ref a),some (vI t),some (.ref p),v]∧H2 p=some (.lst ((Fx ws i).map oV))∧Same H H2) ⟨none,rfl,upd_same,Same.new hp⟩ ?_ ?_
  ·rintro i σ H2 N hi ⟨v,rfl,hp2,hs⟩ hN
   walk_at "wp"
   rw [show (1:Int)+(i:Int)=((i+1:Nat):Int) by omega]
   refine ⟨⟨_,SqL.of hp2⟩,p,a,ws,Fx ws i,i+1,rfl,hs.sq hS,Ow,hp2,vf ws i,fun H3 h3=>?_⟩
   walk_at "wp"
   refine ⟨_,h3 _ _ hp2,by rw [List.length_map,vf];exact aX (by omega),hN _ _ ⟨_,rfl,by rw [upd_same,Fx,List.map_append];rfl,fun b o e=>?_⟩⟩
   rw [upd_ne (ne_of_none e hp)]
   exact h3 _ _ (hs _ _ e)
  ·rintro σ H2 ⟨v,rfl,hp2,hs⟩
   walk_at "wp"
   exact k p H2 hp hp2 hs
theorem Ek (T:Txt mg) (F:aN K mg "check_target" iV ["target"]) :uO P w K mg base:=by
 refine F.aZ qU.2 Bt.2 Bu (fun vs H Q E h=>?_) (fun f cdv A outer s H vs Q E hr h=>?_) <;> obtain ⟨t,rfl,h1,k⟩:=h
 ·rfl
 ·have hu:=hu_of hr
  refine ⟨_,(aq (aV (dX (aK u0 (qv 0) aB (nomark _)) (cM (aK oX (qv 0) (qN T.Hz) (nomark _)))).qt (aq (eX)) aO)),?_⟩
  walk_at "wp"
  rw [if_neg (by omega),if_neg (by omega)]
  exact k
theorem G3 (T:Txt mg) (F:aN K mg "check_worth" jX ["worth"]) :nT P w K mg base:=by
 refine F.aZ uD.2 DG.2 DK (fun vs H Q E h=>?_) (fun f cdv A outer s H vs Q E hr h=>?_) <;> obtain ⟨w,rfl,h1,k⟩:=h
 ·rfl
 ·have hu:=hu_of hr
  refine ⟨_,(aq (aV (dX (aK u0 (qv 0) aB (nomark _)) (cM (aK oX (qv 0) (qN T.sH) (nomark _)))).qt (aq (eX)) aO)),?_⟩
  walk_at "wp"
  rw [if_neg (by omega),if_neg (by omega)]
  exact k
theorem Im (T:Txt mg) (F:aN K mg "check_base" mJ ["base"]) :xJ P w K mg base:=by
 refine F.aZ vG.2 Gp.2 Gq (fun vs H Q E h=>?_) (fun f cdv A outer s H vs Q E hr h=>?_) <;> obtain ⟨b,rfl,h1,h2,k⟩:=h
 ·rfl
 ·have hu:=hu_of hr
  refine ⟨_,(aq (aV (dX (aK u0 (qv 0) (qN T.Kz) (nomark _)) (cM (aK oX (qv 0) (qN T.NZ) (nomark _)))).qt (aq (eX)) aO)),?_⟩
  walk_at "wp"
  rw [if_neg (by omega),if_neg (by omega)]
  exact k
theorem El (T:Txt mg) (F:aN K mg "check_worths" iW ["worths"]) (dZ:nT P w K mg base) (tG:xJ P w K mg base):cB P w K mg base:=by
 refine F.aZ qW.2 Bv.2 qX (fun vs H Q E h=>?_) (fun f cdv A outer s H vs Q E hr h=>?_) <;> obtain ⟨a,ws,rfl,hS,h1,h2,h3,k⟩:=h
 ·rfl
 ·have hu:=hu_of hr
  refine ⟨_,(ao (aY (au tG (hr.mono (by decide)) pass0 (aj (aA aM (by rfl) T.cF PySem.boot_len (aj (qv 0) ak)) ak)))
   (aq (bL PassesOwn.never rfl (iw (qv 0)) (aW (i:=1) qX.nd rfl (Or.inl rfl)) (aq (aY (au dZ (hr.mono (by decide)) pass0 (aj (qv 1) ak))))))),?_⟩
  walk_at "wp"
  refine ⟨_,hS,?_⟩
  rw [List.length_map]
  refine ⟨_,rfl,h1,h2,?_⟩
  walk_at "wp"
  refine pU.go hS (fun i σ H2=>∃ v,σ=[some (.ref a),v]∧H2=H) ⟨none,rfl,rfl⟩ (fun i σ H2 _ ⟨_,_,e⟩=>e ▸ Same.refl _) ?_ ?_
  ·rintro i x σ H2 N hx ⟨v,rfl,rfl⟩ hN
   rw [List.getElem?_map,Option.map_eq_some_iff] at hx
   obtain ⟨d,hd,rfl⟩:=hx
   have:=h3 d (List.mem_of_getElem? hd)
   walk_at "wp"
   refine ⟨d,rfl,this,?_⟩
   exact hN _ _ ⟨_,rfl,rfl⟩
  ·rintro σ H2 ⟨v,rfl,rfl⟩
   exact k
theorem Qs (T:Txt mg) (F:aN K mg "sums_to" wJ ["worths","target"]) (yC:Dj P w K mg base) (n6:uO P w K mg base) (aR:cB P w K mg base):yu P w K mg base:=by
 refine F.aZ Dd.2 Oa.2 Ob (fun vs H Q E h=>?_) (fun f cdv A outer s H vs Q E hr h=>?_) <;> obtain ⟨a,ws,t,rfl,hS,h2,Ow,hw,ht,k⟩:=h
 ·rfl
 ·have hu:=hu_of hr
  refine ⟨_,(ao (aY (au aR (hr.mono (by decide)) pass0 (aj (qv 0) ak)))
   (ao (aY (au n6 (hr.mono (by decide)) pass0 (aj (qv 1) ak)))
   (aq (aG (au yC (hr.mono (by decide)) pass0 (aj (qv 0) (aj (qv 1) ak))))))),?_⟩
  walk_at "wp"
  refine ⟨a,ws,rfl,hS,h2,Ow,hw,?_⟩
  walk_at "wp"
  refine ⟨t,rfl,ht,?_⟩
  walk_at "wp"
  exact ⟨a,ws,t,rfl,hS,Ow,ht,k⟩
theorem Io (T:Txt mg) (F:aN K mg "lengthened" mK ["tally","worths"]) :pY P w K mg base:=by
 refine F.aZ vH.2 Gr.2 fB (fun vs H Q E h=>?_) (fun f cdv A outer s H vs Q E hr h=>?_) <;> obtain ⟨t,a,tl,ws,rfl,ht,hS,hl,hw,k⟩:=h
 ·rfl
 ·have hu:=hu_of hr
  refine ⟨_,(ao (aQ (i:=2) fB.nd rfl (Or.inl rfl) (bf O8 (eV (aj aB ak)) (bf op_add (aA aM (by rfl) T.cF PySem.boot_len (aj (qv 0) ak)) (qN T.sH))))
   (ao (bL PassesOwn.never rfl (J8 rfl T.vA (aj (qv 0) ak)) (Ph (K:=K) rfl rfl (qQ (aW (i:=3) fB.nd rfl (Or.inl rfl)) (qQ (aW (i:=4) fB.nd rfl (Or.inl rfl)) J9))) (aq (aV (aK oX (qv 4) aB (nomark _)) (aq (bL PassesOwn.never rfl (iw (qv 1)) (aW (i:=5) fB.nd rfl (Or.inl rfl)) (aq (Et (qv 2) (bf op_add (qv 3) (qv 5)) (wF (K:=K) rfl) (qv 4) Am set_list)))) aO)))
   (aq (aG (qv 2))))),?_⟩
  walk_at "wp"
  refine ⟨by decide,fun z hz=>⟨_,bQ.of (Same.new hz _ _ ht),?_⟩⟩
  rw [List.length_map,show ((tl.length:Int)+50)=((tl.length+50:Nat):Int) by omega]
  generalize hn:tl.length+50=n
  refine ⟨_,upd_same,by omega,by omega,?_,fun p hp=>?_⟩
  ·rw [Int.toNat_natCast]
   exact Nat.le_of_lt (aX (by simp only [List.length_cons,List.length_nil];omega))
  rw [Int.toNat_natCast,Mw]
  have hp':H p=none:=(Same.new hz).free hp
  have hsz:Same H (upd (upd H z (.lst [.int 0])) p (.lst ((tab n fun _=>0).map vI))):=(Same.new hz).trans (Same.new hp)
  refine Uk.go (xs:=tl.map vI) (SqL.of (hsz _ _ ht)) (fun i σ H2=>i≤tl.length∧∃ v1 v2 v3,σ=[some (.ref t),some (.ref a),some (.ref p),v1,v2,v3]∧H2 p=some (.lst ((tab n (Az tl ws i)).map vI))∧Same H H2) ⟨by omega,none,none,none,rfl,?_,hsz⟩ ?_ ?_ ?_
  ·rw [upd_same,Ay (G:=Az tl ws 0) (fun s _=>(Uo tl ws s).symm)]
  ·rintro i σ H2 _ ⟨_,_,_,_,_,_,h2⟩ o e
   rw [hsz _ _ ht] at e
   cases e
   exact h2 _ _ ht
  ·rintro i x q σ H2 N hx ⟨hi,v1,v2,v3,rfl,hp2,h2⟩ hq hN
   rw [List.getElem?_map,Option.map_eq_some_iff] at hx
   obtain ⟨m,hm,rfl⟩:=hx
   have hi':i<tl.length:=(List.getElem?_eq_some_iff.mp hm).1
   have hmd:tl.getD i 0=m:=by rw [List.getD_eq_getElem?_getD,hm];rfl
   have hpq:p≠q:=ne_of_none hp2 hq
   have h3:Same H (upd H2 q (.tup [.int (i:Int),vI m])):=h2.trans (Same.new hq)
   have hp3:upd H2 q (.tup [.int (i:Int),vI m]) p=some (.lst ((tab n (Az tl ws i)).map vI)):=by rw [upd_ne hpq];exact hp2
   walk_at "wp"
   refine ⟨_,SqT.of upd_same,by rfl,?_⟩
   walk_at "wp"
   generalize upd H2 q (.tup [.int (i:Int),vI m])=H3 at h3 hp3
   refine ite2 (fun c=>?_) (fun c=>?_)
   ·refine pU.base (xs:=ws.map vI) hS (fun j σ H4=>∃ v3,σ=[some (.ref t),some (.ref a),some (.ref p),some (.int i),some (vI m),v3]∧H4 p=some (.lst ((tab n (fun s=>Az tl ws i s+nq (ws.take j) i m s)).map vI))∧Same H H4) ⟨_,rfl,?_,h3⟩ ?_ ?_ ?_
    ·rw [hp3,List.take_zero]
     exact cG fun s _=>by rw [Mx];rfl
    ·rintro j σ H4 _ ⟨_,_,_,h4⟩
     exact h4
    ·rintro j x σ H4 N2 hx ⟨v3,rfl,GR,h4⟩ Vb
     rw [List.getElem?_map,Option.map_eq_some_iff] at hx
     obtain ⟨w,hw',rfl⟩:=hx
     have hwl:=hw w (List.mem_of_getElem? hw')
     walk_at "wp"
     rw [show (i:Int)+(w:Int)=((i+w:Nat):Int) by omega]
     refine ⟨_,SqL.of GR,_,Fy (by omega),?_⟩
     walk_at "wp"
     refine ⟨_,GR,i+w,oZ (by rw [List.length_map,c7];omega),Vb _ _ ⟨_,rfl,?_,fun b o e=>?_⟩⟩
     ·rw [upd_same]
      rw [show (V.int ((Az tl ws i (i+w)+nq (ws.take j) i m (i+w):Nat)+(m:Int)))=vI (Az tl ws i (i+w)+nq (ws.take j) i m (i+w)+m) by rw [vI];congr 1]
      rw [←List.map_set,Kc]
      refine cG (fun s _=>?_)
      rw [Jp hw']
      by_cases e:s=i+w
      ·rw [if_pos e,if_pos e,e];omega
      ·rw [if_neg e,if_neg e];omega
     ·rw [upd_ne (ne_of_none e hp')];exact h4 _ _ e
    ·rintro σ H4 ⟨v3,rfl,GR,h4⟩
     refine hN _ _ ⟨by omega,_,_,_,rfl,?_,h4⟩
     rw [GR,List.length_map,List.take_of_length_le (Nat.le_refl _)]
     exact cG (fun s _=>by rw [Jo,hmd])
   ·refine hN _ _ ⟨by omega,_,_,_,rfl,?_,h3⟩
    rw [hp3]
    exact cG (fun s _=>by rw [Jo,hmd,show m=0 by omega,Uq];rfl)
  ·rintro σ H2 ⟨_,v1,v2,v3,rfl,hp2,h2⟩
   walk_at "wp"
   refine k p H2 hp' ?_ h2
   rw [hp2,List.length_map,hn]
   exact cG (fun s _=>W7 tl ws s)
theorem U6 (T:Txt mg) (F:aN K mg "spread" zF ["worths","length"]) (dR:pY P w K mg base):JN P w K mg base:=by
 refine F.aZ Gs.2 Qj.2 nJ (fun vs H Q E h=>?_) (fun f cdv A outer s H vs Q E hr h=>?_) <;> obtain ⟨a,ws,n,rfl,hS,h2,hw,hn1,hn2,k⟩:=h
 ·rfl
 ·have hu:=hu_of hr
  refine ⟨_,(ao (aQ (i:=2) nJ.nd rfl (Or.inl rfl) (Mq (aK op_eq (qv 1) aB (nomark _)) (qv 0) (iI (Ka (K:=K) rfl) (qv 0) (jT aB) oY)))
   (ao (aQ (i:=3) nJ.nd rfl (Or.inl rfl) (au dR (hr.mono (by decide)) pass0 (aj (eV (aj aB ak)) (aj (qv 2) ak))))
   (ao (bL PassesOwn.never rfl (bK rfl T.cJ (aj (bf op_sub (qv 1) aB) ak)) (aW (i:=4) nJ.nd rfl (Or.inl rfl)) (aq (aQ (i:=3) nJ.nd rfl (Or.inl rfl) (au dR (hr.mono (by decide)) pass0 (aj (qv 3) (aj (qv 0) ak))))))
   (aq (aG (qv 3)))))),?_⟩
  refine Mh (fun σ H1=>∃ (b:Addr) (fs:List Nat),σ=[some (.ref a),some (vI n),some (.ref b),none,none]∧bQ K H1 b (fs.map vI)∧(∀ x∈fs,x≤50)∧fs=(if n=1 then ws else ws.tail)∧Same H H1) (fun N hN=>?_) ?_
  ·walk_at "wp"
   refine ite2 (fun c=>?_) (fun c=>?_)
   ·exact hN _ _ ⟨a,ws,rfl,hS,hw,by rw [if_pos (by omega)],Same.refl _⟩
   ·refine Eu hS ?_ (fun p H1 hp hp1 hs=>hN _ _ ⟨p,ws.tail,rfl,?_,fun x hx=>hw x (List.mem_of_mem_tail hx),by rw [if_neg (by omega)],hs⟩)
    ·rw [show (1:Int)=((1:Nat):Int) from rfl,HT.rR,List.length_map]
     omega
    ·rw [show (1:Int)=((1:Nat):Int) from rfl,qP (by rw [List.length_map];omega)] at hp1
     rw [List.map_tail,←List.drop_one]
     exact hp1
  rintro σ H1 ⟨b,fs,rfl,hb,hf,hfs,h1⟩
  walk_at "wp"
  refine ⟨by decide,fun z hz=>⟨z,b,[1],fs,rfl,upd_same,(Same.new hz).sq hb,by decide,hf,fun p H2 hp hp2 h12=>?_⟩⟩
  have h2':Same H H2:=(h1.trans (Same.new hz)).trans h12
  walk_at "wp"
  refine ⟨by omega,by omega,?_⟩
  rw [show ((n:Int) - 1).toNat=n - 1 by omega]
  refine mj.go (fun i σ H3=>∃ (q:Addr) (v:Option V),σ=[some (.ref a),some (vI n),some (.ref b),some (.ref q),v]∧H q=none∧H3 q=some (.lst ((tab (50*i+51) (spF fs ws i)).map vI))∧Same H H3) ⟨p,none,rfl,h1.free ((Same.new hz).free hp),?_,h2'⟩ ?_ ?_
  ·rw [hp2]
   exact cG fun s _=>abD fs s
  ·rintro i σ H3 N hi ⟨q,v,rfl,hq,YG,h3⟩ hN
   walk_at "wp"
   refine ⟨q,a,_,ws,rfl,YG,h3.sq hS,by rw [c7];omega,hw,fun r H4 hr hr4 h4=>?_⟩
   walk_at "wp"
   refine hN _ _ ⟨r,_,rfl,h3.free hr,?_,h3.trans h4⟩
   rw [hr4,c7]
   rw [show 50*i+51+50=50*(i+1)+51 by omega]
   refine cG fun s _=>?_
   show sh _ ws s=sh (spF fs ws i) ws s
   refine Mz fun j _=>?_
   rw [Mv]
   by_cases e:j<50*i+51
   ·rw [if_pos e]
   ·rw [if_neg e,Sv hf hw i j (by omega)]
  ·rintro σ H3 ⟨q,v,rfl,hq,YG,h3⟩
   walk_at "wp"
   refine k q H3 hq ?_ h3
   rw [YG,show 50*(n - 1)+51=50*n+1 by omega]
   unfold spd
   rw [←hfs]
theorem Em (T:Txt mg) (F:aN K mg "check_length" iY ["length"]) :uP P w K mg base:=by
 refine F.aZ qY.2 Bw.2 Bx (fun vs H Q E h=>?_) (fun f cdv A outer s H vs Q E hr h=>?_) <;> obtain ⟨t,rfl,h0,h1,k⟩:=h
 ·rfl
 ·have hu:=hu_of hr
  refine ⟨_,(aq (aV (dX (aK u0 (qv 0) aB (nomark _)) (cM (aK oX (qv 0) (qN T.Ge) (nomark _)))).qt (aq (eX)) aO)),?_⟩
  walk_at "wp"
  rw [if_neg (by omega),if_neg (by omega)]
  exact k
theorem K7 (T:Txt mg) (F:aN K mg "spread_of" pq ["worths","length"]) (G4:JN P w K mg base) (n8:uP P w K mg base) (aR:cB P w K mg base):sY P w K mg base:=by
 refine F.aZ w6.2 HW.2 HX (fun vs H Q E h=>?_) (fun f cdv A outer s H vs Q E hr h=>?_) <;> obtain ⟨a,ws,n,rfl,hS,h2,Ow,hw,hn1,hn2,k⟩:=h
 ·rfl
 ·have hu:=hu_of hr
  refine ⟨_,(ao (aY (au aR (hr.mono (by decide)) pass0 (aj (qv 0) ak)))
   (ao (aY (au n8 (hr.mono (by decide)) pass0 (aj (qv 1) ak)))
   (aq (aG (au G4 (hr.mono (by decide)) pass0 (aj (qv 0) (aj (qv 1) ak))))))),?_⟩
  walk_at "wp"
  refine ⟨a,ws,rfl,hS,h2,Ow,hw,?_⟩
  walk_at "wp"
  refine ⟨n,rfl,hn1,hn2,?_⟩
  walk_at "wp"
  exact ⟨a,ws,n,rfl,hS,h2,hw,hn1,hn2,k⟩
theorem G5 (T:Txt mg) (F:aN K mg "least_first" jY ["ring"]) :vQ P w K mg base:=by
 refine F.aZ uE.2 DQ.2 uF (fun vs H Q E h=>?_) (fun f cdv A outer s H vs Q E hr h=>?_) <;> obtain ⟨a,R,rfl,ha,hne,hl,k⟩:=h
 ·rfl
 ·have hu:=hu_of hr
  refine ⟨_,(ao (aQ (i:=1) uF.nd rfl (Or.inl rfl) (iJ (K:=K) rfl PySem.F.plainAttrs_list PySem.F.slot_list_index PySem.F.type_list_index Mp (qv 0) (aj (aA (Av rfl) (by rfl) T.TQ JZ (aj (qv 0) ak)) ak)))
   (aq (aG (bf op_cat (iI Ma (qv 0) (jT (qv 1)) oY) (iI Ma (qv 0) oY (jT (qv 1))))))),?_⟩
  walk_at "wp"
  refine ⟨⟨_,SqL.of ha⟩,R.map (fun d:Nat=>(d:Int)),SqL.of (by rw [List.map_map];exact ha),by simpa using hne,fun M hM hmin=>?_⟩
  obtain ⟨m,hm,rfl⟩:=List.mem_map.mp hM
  obtain ⟨s,hs1,hs2⟩:=yV hm
  have hlow:CV R s:=⟨m,hs1,fun x hx=>by have:=hmin _ (List.mem_map_of_mem (f:=fun d:Nat=>(d:Int)) hx);omega,hs2⟩
  have hsl:=hlow.lt
  refine ⟨R.map (fun d:Nat=>(d:Int)),by rw [List.map_map];exact ha,s,by rw [List.getElem?_map,hs1];rfl,fun x hx z=>?_,?_⟩
  ·rw [List.getElem?_map,Option.map_eq_some_iff] at z
   obtain ⟨y,hy,e⟩:=z
   exact hs2 x hx (by rw [hy];congr 1;omega)
  walk_at "wp"
  refine ⟨_,SqL.of ha,fun p hp=>⟨_,SqL.of (Same.new hp _ _ ha),fun q hq=>?_⟩⟩
  have hq':H q=none:=(Same.new hp).free hq
  have hpq:p≠q:=ne_of_none (o:=.lst (uU (R.map vI) (some (s:Int)) none)) upd_same hq
  refine ⟨_,_,by rw [upd_ne hpq];exact upd_same,upd_same,?_,fun r hr=>k s r _ hlow ((Same.new hp).free ((Same.new hq).free hr)) ?_ (((Same.new hp).trans (Same.new hq)).trans (Same.new hr))⟩
  ·rw [qP (by rw [List.length_map];omega),Pg (by rw [List.length_map];omega),List.length_drop,List.length_take,List.length_map]
   exact Nat.le_of_lt (aX (by omega))
  ·rw [upd_same,qP (by rw [List.length_map];omega),Pg (by rw [List.length_map];omega)]
   unfold WQ
   rw [List.map_append,List.map_drop,List.map_take]
theorem G6 (T:Txt mg) (F:aN K mg "taken_apart" jZ ["number","base"]) :nU P w K mg base:=by
 refine F.aZ uG.2 DR.2 gD (fun vs H Q E h=>?_) (fun f cdv A outer s H vs Q E hr h=>?_) <;> obtain ⟨n,b,rfl,h1,h2,h3,k⟩:=h
 ·rfl
 ·have hu:=hu_of hr
  refine ⟨_,(ao (aQ (i:=2) gD.nd rfl (Or.inl rfl) (eV (aj (bf op_mod (qv 0) (qv 1)) ak)))
   (ao (aQ (i:=3) gD.nd rfl (Or.inl rfl) (bf m8 (qv 0) (qv 1)))
   (ao (u9 PassesOwn.never (aK oX (qv 3) aB (nomark _)) (ao (aY (iJ (K:=K) rfl PySem.F.plainAttrs_list PySem.F.slot_list_append PySem.F.type_list_append bN (qv 2) (aj (bf op_mod (qv 3) (qv 1)) ak)))
   (aq (aQ (i:=3) gD.nd rfl (Or.inl rfl) (bf m8 (qv 3) (qv 1))))))
   (ao (aY (Wx (K:=K) rfl PySem.F.plainAttrs_list PySem.F.slot_list_reverse PySem.F.type_list_reverse O7 (qv 2)))
   (aq (aG (qv 2))))))),?_⟩
  walk_at "wp"
  refine ⟨by omega,by decide,fun p hp=>⟨su (by omega) (by omega),?_⟩⟩
  refine yO (fun r σ H2=>∃ (ds:List Nat),σ=[some (vI n),some (vI b),some (.ref p),some (vI r)]∧H2 p=some (.lst (ds.map vI))∧Same H H2∧fl b n=ds++(if r=0 then [] else fl b r)) (n / b) ⟨[n % b],rfl,upd_same,Same.new hp,?_⟩ ?_
  ·by_cases h:b≤n
   ·rw [wW h1 h,if_neg (by have:=Nat.div_pos h (by omega);omega)]
    rfl
   ·rw [uo (by omega),if_pos (Nat.div_eq_of_lt (by omega)),Nat.mod_eq_of_lt (by omega)]
    rfl
  ·rintro r σ H2 ⟨ds,rfl,hp2,hs,he⟩
   walk_at "wp"
   refine ite2 (fun c=>Wh.go fun N hN=>?_) (fun c=>?_)
   ·walk_at "wp"
    have hl:(ds.map vI).length<sizeLine:=by
     have:=Fo h1 1001 n (by decide) h3
     rw [he,List.length_append] at this
     rw [List.length_map]
     exact aX (by omega)
    refine ⟨⟨_,SqL.of hp2⟩,by omega,_,hp2,hl,su (by omega) (by omega),hN (r / b) _ _ (Nat.div_lt_self (by omega) (by omega)) ⟨ds++[r % b],rfl,?_,fun q o e=>?_,?_⟩⟩
    ·rw [upd_same,List.map_append];rfl
    ·rw [upd_ne (ne_of_none e hp)];exact hs _ _ e
    ·rw [he,if_neg (by omega)]
     by_cases h:b≤r
     ·rw [wW h1 h,if_neg (by have:=Nat.div_pos h (by omega);omega)]
      simp
     ·rw [uo (by omega),if_pos (Nat.div_eq_of_lt (by omega)),Nat.mod_eq_of_lt (by omega)]
      simp
   ·walk_at "wp"
    refine ⟨⟨_,SqL.of hp2⟩,_,hp2,k p _ hp ?_ fun q o e=>?_⟩
    ·rw [upd_same,he,if_pos (by omega),List.append_nil,List.map_reverse]
    ·rw [upd_ne (ne_of_none e hp)];exact hs _ _ e
theorem U7 (T:Txt mg) (F:aN K mg "fallen" zG ["worths","number"]) (d7:nU P w K mg base):mY P w K mg base:=by
 refine F.aZ Gw.2 Qk.2 Ql (fun vs H Q E h=>?_) (fun f cdv A outer s H vs Q E hr h=>?_) <;> obtain ⟨a,ws,n,rfl,hS,h1,h2,h3,k⟩:=h
 ·rfl
 ·have hu:=hu_of hr
  refine ⟨_,(aq (aG (aA (Uh rfl) (by rfl) T.ac6 abj (aj (CQ (x:="figure") ⟨rfl,rfl,rfl,rfl,rfl,rfl,rfl,rfl⟩ rfl (iw (au d7 (hr.mono (by decide)) pass0 (aj (qv 1) (aj (aA aM (by rfl) T.cF PySem.boot_len (aj (qv 0) ak)) ak)))) (fun _ _ _ _=>(bY (J3 (K:=K) rfl) (qv 1) (qv 0) (fun _ _=>rfl))) (fun _ _ _ _=>aW (i:=0) (show (["figure","worths","number"]:List Str).Nodup by decide +kernel) rfl (Or.inl rfl) (.inr rfl))) ak)))),?_⟩
  walk_at "wp"
  refine ⟨_,hS,?_⟩
  rw [List.length_map]
  refine ⟨n,ws.length,rfl,h1,h2,h3,fun p H1 hp hp1 hs=>?_⟩
  walk_at "wp"
  have hlen:(List.map vI (fl ws.length n).reverse).length<sizeLine:=by
   rw [List.length_map,List.length_reverse]
   exact aX (Nat.le_trans (Fo h1 1001 n (by decide) h3) (by decide))
  refine Wu.map (bQ.of hp1) hlen (fun x=>match x with | .int i=>vI (wt ws i.toNat) | _=>.non) (fun i x H2 R hx hsm hR=>?_) (fun D H2 hD hD2 hsm=>?_)
  ·rw [List.getElem?_map,Option.map_eq_some_iff] at hx
   obtain ⟨d,hd,rfl⟩:=hx
   have hdl:d<ws.length:=WD h1 n d (List.mem_reverse.mp (List.mem_of_getElem? hd))
   walk_at "wp"
   exact ⟨_,(hs.trans hsm).sq hS,_,Fp hdl,hR _ (Same.refl _)⟩
  ·walk_at "wp"
   refine ⟨((fl ws.length n).reverse.map (wt ws)).map (fun d:Nat=>(d:Int)),SqL.of ?_,?_⟩
   ·rw [hD2,List.map_map,List.map_map,List.map_map]
    rfl
   ·rw [Mr,List.map_reverse,Zb]
    exact k _ (hs.trans hsm)
theorem Z2 (T:Txt mg) (F:aN K mg "fits" KR ["number","base"]) :TX P w K mg base:=by
 refine F.aZ Oc.2 Yt.2 zH (fun vs H Q E h=>?_) (fun f cdv A outer s H vs Q E hr h=>?_) <;> obtain ⟨n,b,rfl,h1,h2,k⟩:=h
 ·rfl
 ·have hu:=hu_of hr
  refine ⟨_,(ao (aQ (i:=2) zH.nd rfl (Or.inl rfl) aB)
   (ao (bL PassesOwn.never rfl (bK rfl T.cJ (aj (qN T.Gf) ak)) (aW (i:=3) zH.nd rfl (Or.inl rfl)) (ao (aQ (i:=2) zH.nd rfl (Or.inl rfl) (bf xR (qv 2) (qv 1)))
   (aq (aV (aK u0 (qv 0) (qv 2) (nomark _)) (aq (aG dw)) aO))))
   (aq (aG dw)))),?_⟩
  walk_at "wp"
  refine mj.go (fun i σ H2=>∃ v,σ=[some (.int n),some (vI b),some (.int ((b:Int) ^ i)),v]∧H2=H∧∀ j,0<j→j≤i→(b:Int) ^ j≤n) ⟨none,by simp,rfl,by intro j h0 h1;omega⟩ ?_ ?_
  ·rintro i σ H2 N hi ⟨v,rfl,rfl,hj⟩ hN
   walk_at "wp"
   refine ⟨.inr ⟨by omega,by omega⟩,ite2 (fun c=>?_) (fun c=>?_)⟩
   ·have hp:n<(b:Int) ^ 1001:=by
     rw [←Int.pow_succ] at c
     refine Int.lt_of_lt_of_le c ?_
     have:b ^ (i+1)≤b ^ 1001:=Nat.pow_le_pow_right (by omega) (by omega)
     exact_mod_cast this
    rw [decide_eq_true hp] at k
    exact k
   ·refine hN _ _ ⟨some (.int i),by simp only [Int.pow_succ],rfl,fun j h0 h1=>?_⟩
    by_cases e:j≤i
    ·exact hj j h0 e
    ·have e':j=i+1:=by omega
     rw [e',Int.pow_succ]
     omega
  ·rintro σ H2 ⟨v,rfl,rfl,hj⟩
   walk_at "wp"
   have hp:¬ n<(b:Int) ^ 1001:=by
    have:=hj 1001 (by decide) (by decide)
    omega
   rw [decide_eq_false hp] at k
   exact k
theorem En (T:Txt mg) (F:aN K mg "check_number" iZ ["number","base"]) (Qt:TX P w K mg base):uQ P w K mg base:=by
 refine F.aZ qZ.2 BJ.2 BK (fun vs H Q E h=>?_) (fun f cdv A outer s H vs Q E hr h=>?_) <;> obtain ⟨n,b,rfl,h1,h2,h3,k⟩:=h
 ·rfl
 ·have hu:=hu_of hr
  refine ⟨_,(ao (aV (aK u0 (qv 0) aB (nomark _)) (aq (eX)) aO)
   (aq (aV (gU (bC (au Qt (hr.mono (by decide)) pass0 (aj (qv 0) (aj (qv 1) ak))))) (aq (eX)) aO))),?_⟩
  walk_at "wp"
  rw [if_neg (by omega)]
  refine ⟨n,b,rfl,h1,h2,?_⟩
  have h4:(n:Int)<(b:Int) ^ 1001:=by exact_mod_cast h3
  rw [decide_eq_true h4]
  walk_at "wp"
  exact k
theorem Qu (T:Txt mg) (F:aN K mg "walk_of" wK ["worths","number"]) (cW:mY P w K mg base) (oh:uQ P w K mg base) (aR:cB P w K mg base):sZ P w K mg base:=by
 refine F.aZ Df.2 Od.2 j9 (fun vs H Q E h=>?_) (fun f cdv A outer s H vs Q E hr h=>?_) <;> obtain ⟨a,ws,n,rfl,hS,h1,h2,hw,h3,k⟩:=h
 ·rfl
 ·have hu:=hu_of hr
  refine ⟨_,(ao (aY (au aR (hr.mono (by decide)) pass0 (aj (qv 0) ak)))
   (ao (aY (au oh (hr.mono (by decide)) pass0 (aj (qv 1) (aj (aA aM (by rfl) T.cF PySem.boot_len (aj (qv 0) ak)) ak))))
   (ao (aQ (i:=2) j9.nd rfl (Or.inl rfl) (eV ak))
   (ao (aQ (i:=3) j9.nd rfl (Or.inl rfl) nj)
   (ao (aQ (i:=4) j9.nd rfl (Or.inl rfl) (qv 1))
   (ao (u9 PassesOwn.never (qO hu (qv 4) (qv 3)) (ao (rZ hu (qv 3) (qv 4) dw rfl)
   (ao (aY (iJ (K:=K) rfl PySem.F.plainAttrs_list PySem.F.slot_list_append PySem.F.type_list_append bN (qv 2) (aj (qv 4) ak)))
   (aq (aQ (i:=4) j9.nd rfl (Or.inl rfl) (au cW (hr.mono (by decide)) pass0 (aj (qv 0) (aj (qv 4) ak))))))))
   (aq (aG (qv 2))))))))),?_⟩
  walk_at "wp"
  refine ⟨a,ws,rfl,hS,h1,h2,hw,?_⟩
  walk_at "wp"
  refine ⟨_,hS,?_⟩
  rw [List.length_map]
  refine ⟨n,ws.length,rfl,h1,h2,h3,?_⟩
  walk_at "wp"
  refine ⟨by decide,fun p hp d hd=>?_⟩
  have hd':H d=none:=(Same.new hp).free hd
  have hpd:p≠d:=ne_of_none (o:=.lst []) upd_same hd
  refine yO (fun m σ H2=>∃ i:Nat,m=50053 - i∧i≤50052∧σ=[some (.ref a),some (vI n),some (.ref p),some (.ref d),some (vI (it (fall ws) n i))]∧H2 p=some (.lst ((path (fall ws) n i).map vI))∧H2 d=some (.dK (wC ((path (fall ws) n i).map fun x=>(x,V.bl true))))∧(path (fall ws) n i).Nodup∧Same H H2) 50053 ⟨0,rfl,by omega,rfl,?_,upd_same,List.nodup_nil,(Same.new hp).trans (Same.new hd)⟩ ?_
  ·rw [upd_ne hpd];exact upd_same
  ·rintro m σ H2 ⟨i,rfl,hi,rfl,hp2,hd2,hnd,hs⟩
   walk_at "wp"
   refine ⟨_,DGet.k (k:=Sum.inl ((it (fall ws) n i:Nat):Int)) hd2,?_⟩
   rw [dB,lookup_isSome,List.map_map]
   have e1:(path (fall ws) n i).map ((fun x:Nat×V=>x.1) ∘ fun x=>(x,V.bl true))=path (fall ws) n i:=by
    have:((fun x:Nat×V=>x.1) ∘ fun x:Nat=>(x,V.bl true))=id:=rfl
    rw [this,List.map_id]
   rw [e1]
   walk_at "wp"
   refine ite2 (fun c=>?_) (fun c=>Wh.go fun N hN=>?_)
   ·walk_at "wp"
    exact k i p H2 ⟨hnd,c⟩ hp hp2 hs
   ·walk_at "wp"
    have hnd':=yU hnd c
    have hshort:=eY (CT h1 hw h3) hnd'
    have hlk:List.lookup (it (fall ws) n i) ((path (fall ws) n i).map fun x=>(x,V.bl true))=none:=by
     cases q:List.lookup (it (fall ws) n i) ((path (fall ws) n i).map fun x=>(x,V.bl true)) with
     | none=>rfl
     | some v =>
      have:(List.lookup (it (fall ws) n i) ((path (fall ws) n i).map fun x=>(x,V.bl true))).isSome=true:=by rw [q];rfl
      rw [lookup_isSome,List.map_map,e1] at this
      exact absurd (of_decide_eq_true this) c
    refine ⟨_,DPut.k (k:=Sum.inl ((it (fall ws) n i:Nat):Int)) hd2 (by rw [sE,List.length_map,bh];exact aX (by omega)),?_⟩
    rw [wD hlk]
    have hp3:upd H2 d (.dK (wC ((path (fall ws) n i).map (fun x=>(x,V.bl true))++[(it (fall ws) n i,V.bl true)]))) p=some (.lst ((path (fall ws) n i).map vI)):=by rw [upd_ne hpd];exact hp2
    refine ⟨⟨_,SqL.of hp3⟩,_,hp3,by rw [List.length_map,bh];exact aX (by omega),?_⟩
    generalize hH4:upd (upd H2 d (.dK (wC ((path (fall ws) n i).map (fun x=>(x,V.bl true))++[(it (fall ws) n i,V.bl true)])))) p (.lst ((path (fall ws) n i).map vI++[vI (it (fall ws) n i)]))=H4
    have ZW:Same H H4:=fun b o e=>by rw [←hH4,upd_ne (ne_of_none e hp),upd_ne (ne_of_none e hd')];exact hs _ _ e
    have GR:H4 p=some (.lst ((path (fall ws) n (i+1)).map vI)):=by rw [←hH4,upd_same,iy,List.map_append];rfl
    have Vd:H4 d=some (.dK (wC ((path (fall ws) n (i+1)).map fun x=>(x,V.bl true)))):=by rw [←hH4,upd_ne hpd.symm,upd_same,iy,List.map_append];rfl
    refine ⟨a,ws,_,rfl,ZW.sq hS,h1,h2,RZ h1 hw h3 i,fun H5 h5=>hN (50053 - (i+1)) _ _ (by omega) ⟨i+1,rfl,by omega,rfl,h5 _ _ GR,h5 _ _ Vd,hnd',ZW.trans h5⟩⟩
theorem Qv (T:Txt mg) (F:aN K mg "ring_of" wL ["worths","number"]) (pZ:vQ P w K mg base) (cW:mY P w K mg base) (fX:sZ P w K mg base):jE P w K mg base:=by
 refine F.aZ Dg.2 Oe.2 pA (fun vs H Q E h=>?_) (fun f cdv A outer s H vs Q E hr h=>?_) <;> obtain ⟨a,ws,n,rfl,hS,h1,h2,hw,h3,k⟩:=h
 ·rfl
 ·have hu:=hu_of hr
  refine ⟨_,(ao (aQ (i:=2) pA.nd rfl (Or.inl rfl) (au (Good.alias fX T.jD) (hr.mono (by decide)) pass0 (aj (qv 0) (aj (qv 1) ak))))
   (ao (aQ (i:=3) pA.nd rfl (Or.inl rfl) (au cW (hr.mono (by decide)) pass0 (aj (qv 0) (aj (bY cD (qv 2) (bf op_sub (aA aM (by rfl) T.cF PySem.boot_len (aj (qv 2) ak)) aB) (fun _ _=>rfl)) ak))))
   (ao (aQ (i:=4) pA.nd rfl (Or.inl rfl) (iJ (K:=K) rfl PySem.F.plainAttrs_list PySem.F.slot_list_index PySem.F.type_list_index Mp (qv 2) (aj (qv 3) ak)))
   (aq (aG (rY (aj (au pZ (hr.mono (by decide)) pass0 (aj (iI Ma (qv 2) (jT (qv 4)) oY) ak)) (aj (qv 4) ak)))))))),?_⟩
  walk_at "wp"
  refine ⟨a,ws,n,rfl,hS,h1,h2,hw,h3,fun kk p H1 hk hp hp1 hs1=>?_⟩
  obtain ⟨j,hj,hj2⟩:=bJ.mp hk.me
  have hshort:=eY (CT h1 hw h3) hk.nd
  have X3:(path (fall ws) n kk)[kk - 1]? = some (it (fall ws) n (kk - 1)):=bV (by omega)
  walk_at "wp"
  refine ⟨_,bQ.of hp1,?_⟩
  rw [List.length_map,bh]
  refine ⟨_,bQ.of hp1,vI (it (fall ws) n (kk - 1)),?_,?_⟩
  ·rw [show (kk:Int) - 1=((kk - 1:Nat):Int) by omega]
   exact atI_nat (by rw [List.getElem?_map,X3];rfl)
  refine ⟨a,ws,_,rfl,hs1.sq hS,h1,h2,RZ h1 hw h3 _,fun H2 h2'=>?_⟩
  rw [show fall ws (it (fall ws) n (kk - 1))=it (fall ws) n kk by
   have:kk=kk - 1+1:=by omega
   conv=>rhs;rw [this]
   rfl]
  have hp2:=h2' _ _ hp1
  walk_at "wp"
  refine ⟨⟨_,SqL.of hp2⟩,(path (fall ws) n kk).map (fun d:Nat=>(d:Int)),by rw [List.map_map];exact hp2,j,by rw [List.getElem?_map,bV hj,hj2];rfl,fun x hx z=>?_,?_⟩
  ·rw [List.getElem?_map,Option.map_eq_some_iff] at z
   obtain ⟨y,hy,e⟩:=z
   have:=iz hk.nd hy (by rw [show y=it (fall ws) n j by omega];exact bV hj)
   omega
  walk_at "wp"
  refine ⟨_,SqL.of hp2,fun q hq=>?_⟩
  have abS:uU ((path (fall ws) n kk).map vI) (some (j:Int)) none=((path (fall ws) n kk).drop j).map vI:=by rw [qP (by rw [List.length_map,bh];omega),List.map_drop]
  rw [abS]
  refine ⟨q,(path (fall ws) n kk).drop j,rfl,upd_same,fun z=>?_,?_,fun s r H3 hlow hr hr3 hs3=>?_⟩
  ·have:=congrArg List.length z
   rw [List.length_drop,bh] at this
   simp at this
   omega
  ·rw [List.length_drop,bh];omega
  walk_at "wp"
  have hsame:Same H H3:=((hs1.trans h2').trans (Same.new hq)).trans hs3
  refine ⟨by decide,fun t ht=>k (WQ ((path (fall ws) n kk).drop j) s) j r t _ ⟨kk,s,hk,hj,hj2,hlow,rfl⟩ ((hs1.trans h2').free ((Same.new hq).free hr)) (hsame.free ht) ?_ upd_same (hsame.trans (Same.new ht))⟩
  rw [upd_ne (ne_of_none hr3 ht)]
  exact hr3
theorem Oq (T:Txt mg) (F:aN K mg "bound_of" sS ["worths"]) (cW:mY P w K mg base) (aR:cB P w K mg base):vR P w K mg base:=by
 refine F.aZ zJ.2 KY.2 mL (fun vs H Q E h=>?_) (fun f cdv A outer s H vs Q E hr h=>?_) <;> obtain ⟨a,ws,rfl,hS,h1,h2,hw,k⟩:=h
 ·rfl
 ·have hu:=hu_of hr
  refine ⟨_,(ao (aY (au aR (hr.mono (by decide)) pass0 (aj (qv 0) ak)))
   (ao (aQ (i:=1) mL.nd rfl (Or.inl rfl) aB)
   (ao (bL PassesOwn.never rfl (bK rfl T.cJ (aj (qN T.KD) ak)) (aW (i:=2) mL.nd rfl (Or.inl rfl)) (aq (aV (aK op_ge (au cW (hr.mono (by decide)) pass0 (aj (qv 0) (aj (qv 2) ak))) (qv 2) (nomark _)) (aq (aQ (i:=1) mL.nd rfl (Or.inl rfl) (bf op_add (qv 2) aB))) aO)))
   (aq (aG (qv 1)))))),?_⟩
  walk_at "wp"
  refine ⟨a,ws,rfl,hS,h1,h2,hw,?_⟩
  walk_at "wp"
  refine mj.go (fun i σ H2=>∃ (B:Nat) (v:Option V),σ=[some (.ref a),some (vI B),v]∧Same H H2∧1≤B∧B≤i+1∧B≤451∧B - 1≤fall ws (B - 1)∧∀ n,B≤n→n<i→fall ws n<n) ⟨1,none,rfl,Same.refl _,by omega,by omega,by omega,by omega,fun n _ h=>by omega⟩ ?_ ?_
  ·rintro i σ H2 N hi ⟨B,v,rfl,hs,hB1,hB2,hB3,hB4,hB5⟩ hN
   walk_at "wp"
   refine ⟨a,ws,i,rfl,hs.sq hS,h1,h2,by have:=yR h1;omega,fun H3 h3=>?_⟩
   walk_at "wp"
   refine ite2 (fun c=>hN _ _ ⟨i+1,some (.int i),rfl,hs.trans h3,by omega,by omega,by omega,?_,fun n h h'=>by omega⟩) (fun c=>hN _ _ ⟨B,some (.int i),rfl,hs.trans h3,hB1,by omega,hB3,hB4,fun n h h'=>?_⟩)
   ·rw [show i+1 - 1=i by omega];omega
   ·by_cases e:n=i
    ·subst e;omega
    ·exact hB5 n h (by omega)
  ·rintro σ H2 ⟨B,v,rfl,hs,hB1,hB2,hB3,hB4,hB5⟩
   walk_at "wp"
   refine k B H2 ⟨hB1,hB4,fun n h=>?_⟩ hB3 hs
   by_cases e:n<451
   ·exact hB5 n h e
   ·exact eZ h1 hw (by omega)
theorem Ot (T:Txt mg) (F:aN K mg "rings_of" sU ["worths"]) (cI:jE P w K mg base) (cW:mY P w K mg base) (jF:vR P w K mg base):iD P w K mg base:=by
 refine F.aZ zK.2 KZ.2 dO (fun vs H Q E h=>?_) (fun f cdv A outer s H vs Q E hr h=>?_) <;> obtain ⟨a,ws,rfl,hS,h2,Ow,hw,k⟩:=h
 ·rfl
 ·have hu:=hu_of hr
  refine ⟨_,(ao (aQ (i:=1) dO.nd rfl (Or.inl rfl) (au jF (hr.mono (by decide)) pass0 (aj (qv 0) ak)))
   (ao (aQ (i:=2) dO.nd rfl (Or.inl rfl) (eV ak))
   (ao (aQ (i:=3) dO.nd rfl (Or.inl rfl) nj)
   (ao (bL PassesOwn.never rfl (bK rfl T.cJ (aj (qv 1) ak)) (aW (i:=4) dO.nd rfl (Or.inl rfl)) (ao (aQ (i:=5) dO.nd rfl (Or.inl rfl) (qv 4))
   (ao (u9 PassesOwn.never (qO hu (qv 5) (qv 3)) (ao (rZ hu (qv 3) (qv 5) (qv 4) rfl)
   (aq (aQ (i:=5) dO.nd rfl (Or.inl rfl) (au cW (hr.mono (by decide)) pass0 (aj (qv 0) (aj (qv 5) ak)))))))
   (aq (aV (aK op_eq (wB hu (qv 3) (qv 5) (fun _ _=>rfl)) (qv 4) (nomark _)) (aq (aY (iJ (K:=K) rfl PySem.F.plainAttrs_list PySem.F.slot_list_append PySem.F.type_list_append bN (qv 2) (aj (bY cD (au (Good.alias cI T.dH) (hr.mono (by decide)) pass0 (aj (qv 0) (aj (qv 5) ak))) aB (fun _ _=>rfl)) ak)))) aO)))))
   (aq (aG (aA (Qa (Yd hr)) (by rfl) T.NT IV (aj (qv 2) ak)))))))),?_⟩
  walk_at "wp"
  refine ⟨a,ws,rfl,hS,h2,Ow,hw,fun B H1 hB ac8 h1=>?_⟩
  walk_at "wp"
  refine ⟨by decide,fun p hp d hd=>⟨by omega,by omega,?_⟩⟩
  have hp0:H p=none:=h1.free hp
  have hd0:H d=none:=h1.free ((Same.new hp).free hd)
  have hpd:p≠d:=ne_of_none (o:=.lst []) upd_same hd
  refine mj.go (fun i σ H2=>∃ (ps:List (Nat×V)) (ls:List (Addr×List Int)) (Rs:List (List Nat)) (v1 v2:Option V),σ=[some (.ref a),some (vI B),some (.ref p),some (.ref d),v1,v2]∧H2 p=some (.lst (ls.map fun q=>V.ref q.1))∧H2 d=some (.dK (wC ps))∧Met (fall ws) i (ps.map (·.1))∧(∀ n v,ps.lookup n=some v→∃ s,v=vI s∧s<i)∧Rgs (fall ws) (ps.map (·.1)) Rs∧ls.map (·.2)=Rs.map (fun R=>R.map fun d:Nat=>(d:Int))∧(∀ q∈ls,H q.1=none∧H2 q.1=some (.lst (q.2.map V.int))∧q.1≠p∧q.1≠d)∧Same H H2∧(i=0→ps=[])∧(0<i→ls≠[])) ⟨[],[],[],none,none,rfl,by rw [upd_ne hpd];exact upd_same,upd_same,⟨fun n hn=>absurd hn (by simp),fun n hn=>absurd hn (by simp),List.nodup_nil,fun s hs=>absurd hs (by omega)⟩,fun n v e=>by simp at e,⟨fun R hR=>absurd hR (by simp),List.nodup_nil,fun R M L _ hM=>absurd hM (by simp)⟩,rfl,fun q hq=>absurd hq (by simp),(h1.trans (Same.new hp)).trans (Same.new hd),fun _=>rfl,fun z=>absurd z (by omega)⟩ ?_ ?_
  ·rintro i σ H2 N hi ⟨ps,ls,Rs,v1,v2,rfl,hp2,hd2,hm,hv,hr,hlr,hl,hs2,hz0,hz1⟩ hN
   rw [Int.zero_add]
   have ac9:i≤450:=by omega
   have hit:=Pu h2 hw ac9
   have hpow:∀ x,x≤450→x<ws.length ^ 1001:=fun x hx=>by have:=yR h2;omega
   walk_at "wp"
   refine yO (fun m σ H3=>∃ t:Nat,m=452 - t∧Ox (fall ws) i (ps.map (·.1)) t∧σ=[some (.ref a),some (vI B),some (.ref p),some (.ref d),some (vI i),some (vI (it (fall ws) i t))]∧H3 d=some (.dK (wC (ps++(path (fall ws) i t).map fun x=>(x,vI i))))∧(∀ b o,b≠d→H2 b=some o→H3 b=some o)) 452 ⟨0,rfl,Ox.zero hm.nd,rfl,by show H2 d=some (.dK (wC (ps++[])));rw [List.append_nil];exact hd2,fun b o _ e=>e⟩ ?_
   rintro m σ H3 ⟨t,rfl,hwk,rfl,xP,h3⟩
   have hs3:Same H H3:=fun b o e=>h3 b o (ne_of_none e hd0) (hs2 b o e)
   obtain ⟨ht,hlen⟩:=hwk.short hm.le hit
   have hkeys:(ps++(path (fall ws) i t).map fun x=>(x,vI i)).map (·.1)=ps.map (·.1)++path (fall ws) i t:=by
    rw [List.map_append,List.map_map]
    congr 1
    exact List.map_id _
   walk_at "wp"
   refine ⟨_,DGet.k (k:=Sum.inl ((it (fall ws) i t:Nat):Int)) xP,?_⟩
   rw [dB,lookup_isSome,hkeys]
   have hp3:H3 p=some (.lst (ls.map fun q=>V.ref q.1)):=h3 p _ hpd hp2
   have lk:∀ (l:List Nat) (n:Nat) (v:V),(l.map fun x=>(x,vI i)).lookup n=some v→v=vI i:=fun l=>by
    induction l with
    | nil=>intro n v e;simp at e
    | cons x r ih =>
     intro n v e
     rw [List.map_cons,List.lookup_cons] at e
     split at e
     ·exact (Option.some.inj e).symm
     ·exact ih n v e
   have hv2:∀ n v,(ps++(path (fall ws) i t).map fun x=>(x,vI i)).lookup n=some v→∃ s,v=vI s∧s<i+1:=fun n v e=>by
    rw [List.lookup_append] at e
    cases e2:ps.lookup n with
    | some v' =>
     rw [e2] at e
     obtain ⟨s,h4,h5⟩:=hv n v' e2
     have:v' = v:=Option.some.inj e
     exact ⟨s,by rw [←this];exact h4,by omega⟩
    | none =>
     rw [e2] at e
     exact ⟨i,lk _ n v e,by omega⟩
   refine ite2 (fun c=>?_) (fun c=>Wh.go fun N' hN'=>?_)
   ·have c:=of_decide_eq_true c
    have hmn:=hm.next hwk hit c
    by_cases hin:it (fall ws) i t∈ps.map (·.1)
    ·have hsome:(ps.lookup (it (fall ws) i t)).isSome=true:=by rw [lookup_isSome];exact decide_eq_true hin
     obtain ⟨v,hv'⟩:=Option.isSome_iff_exists.mp hsome
     obtain ⟨s,rfl,hsi⟩:=hv _ _ hv'
     refine ⟨vI s,.inl ⟨_,Sum.inl ((it (fall ws) i t:Nat):Int),.inl xP,rfl,by rw [dB,List.lookup_append,hv'];rfl⟩,?_⟩
     walk_at "wp"
     rw [if_neg (by omega)]
     exact hN _ _ ⟨_,ls,Rs,_,_,rfl,hp3,xP,by rw [hkeys];exact hmn,hv2,by rw [hkeys];exact hr.old hm hin,hlr,fun q hq=>⟨(hl q hq).1,h3 _ _ (hl q hq).2.2.2 (hl q hq).2.1,(hl q hq).2.2⟩,hs3,fun z=>absurd z (by omega),fun _=>hz1 (Nat.pos_of_ne_zero fun z=>by rw [hz0 z] at hin;simp at hin)⟩
    ·have hpt:it (fall ws) i t∈path (fall ws) i t:=(List.mem_append.mp c).resolve_left hin
     have hsome:((ps++(path (fall ws) i t).map fun x=>(x,vI i)).lookup (it (fall ws) i t)).isSome=true:=by rw [lookup_isSome,hkeys];exact decide_eq_true c
     obtain ⟨v,hv'⟩:=Option.isSome_iff_exists.mp hsome
     have hvi:v=vI i:=by
      have e:=hv'
      rw [List.lookup_append] at e
      cases e2:ps.lookup (it (fall ws) i t) with
      | some v' =>
       have:(ps.lookup (it (fall ws) i t)).isSome=true:=by rw [e2];rfl
       rw [lookup_isSome] at this
       exact absurd (of_decide_eq_true this) hin
      | none=>rw [e2] at e;exact lk _ _ v e
     subst hvi
     refine ⟨vI i,.inl ⟨_,Sum.inl ((it (fall ws) i t:Nat):Int),.inl xP,rfl,by rw [dB,hv']⟩,?_⟩
     walk_at "wp"
     refine ⟨⟨_,SqL.of hp3⟩,a,ws,it (fall ws) i t,rfl,hs3.sq hS,h2,Ow,hw,hpow _ (hit t),fun R j q tt H4 hR hq htt hq4 aep h4=>?_⟩
     walk_at "wp"
     have few:Rs.length<128:=by
      have:=Ba h2 Ow hw hr.nd (fun M hM=>by
       obtain ⟨R',hR',rfl⟩:=List.mem_map.mp hM
       obtain ⟨M,L,h5,_⟩:=hr.ring R' hR'
       rw [h5.headD];exact ⟨R',L,h5⟩)
      rw [List.length_map] at this
      exact this
     have hll:ls.length=Rs.length:=by have:=congrArg List.length hlr;simpa using this
     have hqp:q≠p:=fun z=>by rw [z,hp3] at hq;cases hq
     have hqd:q≠d:=fun z=>by rw [z,xP] at hq;cases hq
     refine ⟨_,bQ.ofT aep,_,rfl,_,h4 _ _ hp3,by rw [List.length_map];exact aX (by omega),?_⟩
     refine hN _ _ ⟨_,ls++[(q,R.map fun d:Nat=>(d:Int))],Rs++[R],_,_,rfl,?_,?_,by rw [hkeys];exact hmn,hv2,by rw [hkeys];exact hr.new hm hwk hpt hR hmn.clo,?_,?_,?_,fun z=>absurd z (by omega),fun _=>by simp⟩
     ·rw [upd_same,List.map_append];rfl
     ·rw [upd_ne (Ne.symm hpd)];exact h4 _ _ xP
     ·rw [List.map_append,List.map_append,hlr];rfl
     ·intro q' hq'
      rcases List.mem_append.mp hq' with z | z
      ·obtain ⟨g1,g2,g3,g4⟩:=hl q' z
       exact ⟨g1,by rw [upd_ne g3];exact h4 _ _ (h3 _ _ g4 g2),g3,g4⟩
      ·rw [List.mem_singleton.mp z]
       refine ⟨hs3.free hq,?_,hqp,hqd⟩
       show upd H4 p _ q=_
       rw [upd_ne hqp,hq4,List.map_map];rfl
     ·intro b o e
      rw [upd_ne (ne_of_none e hp0)]
      exact h4 _ _ (hs3 _ _ e)
   ·have c:it (fall ws) i t ∉ ps.map (·.1)++path (fall ws) i t:=fun z=>c (decide_eq_true z)
    walk_at "wp"
    have hlk:(ps++(path (fall ws) i t).map fun x=>(x,vI i)).lookup (it (fall ws) i t)=none:=by
     cases q:(ps++(path (fall ws) i t).map fun x=>(x,vI i)).lookup (it (fall ws) i t) with
     | none=>rfl
     | some v =>
      have:((ps++(path (fall ws) i t).map fun x=>(x,vI i)).lookup (it (fall ws) i t)).isSome=true:=by rw [q];rfl
      rw [lookup_isSome,hkeys] at this
      exact absurd (of_decide_eq_true this) c
    refine ⟨_,DPut.k (k:=Sum.inl ((it (fall ws) i t:Nat):Int)) xP (by
     rw [sE,←List.length_map (f:=fun x:Nat×V=>x.1),hkeys];exact aX (by omega)),?_⟩
    rw [wD hlk]
    have hsd:Same H (upd H3 d (.dK (wC (ps++(path (fall ws) i t).map (fun x=>(x,vI i))++[(it (fall ws) i t,vI i)])))):=fun b o e=>by rw [upd_ne (ne_of_none e hd0)];exact hs3 _ _ e
    refine ⟨a,ws,it (fall ws) i t,rfl,hsd.sq hS,h2,Ow,hpow _ (hit t),fun H5 h5=>?_⟩
    walk_at "wp"
    refine hN' (452 - (t+1)) _ _ (by omega) ⟨t+1,rfl,hwk.succ c,rfl,?_,fun b o hb e=>h5 _ _ (by rw [upd_ne hb];exact h3 _ _ hb e)⟩
    rw [iy,List.map_append,←List.append_assoc]
    exact h5 _ _ upd_same
  ·rintro σ H2 ⟨ps,ls,Rs,v1,v2,rfl,hp2,hd2,hm,hv,hr,hlr,hl,hs2,hz0,hz1⟩
   walk_at "wp"
   have hll:ls.length=Rs.length:=by have:=congrArg List.length hlr;simpa using this
   have few:Rs.length<128:=by
    have:=Ba h2 Ow hw hr.nd (fun M hM=>by
     obtain ⟨R',hR',rfl⟩:=List.mem_map.mp hM
     obtain ⟨M,L,h5,_⟩:=hr.ring R' hR'
     rw [h5.headD];exact ⟨R',L,h5⟩)
    rw [List.length_map] at this
    exact this
   have hof:∀ q∈ls,∃ R M L,bw (fall ws) R M L∧q.2=R.map (fun d:Nat=>(d:Int)):=fun q hq=>by
    have:q.2∈Rs.map (fun R=>R.map fun d:Nat=>(d:Int)):=by rw [←hlr];exact List.mem_map_of_mem hq
    obtain ⟨R,hR,e⟩:=List.mem_map.mp this
    obtain ⟨M,L,h5,_⟩:=hr.ring R hR
    exact ⟨R,M,L,h5,e.symm⟩
   have hnd:(ls.map fun q=>q.2.headD 0).Nodup:=by
    have e1:(ls.map fun q=>q.2.headD 0)=(Rs.map fun R=>R.headD 0).map (fun d:Nat=>(d:Int)):=by
     have e2:(ls.map fun q=>q.2.headD 0)=(ls.map (·.2)).map (fun l=>l.headD 0):=by rw [List.map_map];rfl
     rw [e2,hlr,List.map_map,List.map_map]
     refine List.map_congr_left fun R _=>?_
     cases R <;> rfl
    rw [e1]
    exact List.pairwise_map.mpr (hr.nd.imp fun h e=>h (by have:((_:Nat):Int)=((_:Nat):Int):=e;omega))
   refine ⟨ls,hp2,fun q hq=>⟨?_,(hl q hq).2.1⟩,hnd,by omega,fun out l ho Ut hl0=>k l out _ (hs2.free hl0) upd_same (fun q hq=>?_) Ut (by rw [ho.length_eq];omega) (fun z=>hz1 hB.pos (List.eq_nil_of_length_eq_zero (by rw [←ho.length_eq,z];rfl))) (fun R M L h5=>?_) (hs2.trans (Same.new hl0))⟩
   ·obtain ⟨R,M,L,h5,e⟩:=hof q hq
    rw [e]
    intro z
    have h6:=h5.head
    cases R with
    | nil=>cases h6
    | cons x r=>cases z
   ·have hq':=ho.mem_iff.mp hq
    obtain ⟨g1,g2,g3,g4⟩:=hl q hq'
    exact ⟨g1,(Same.new hl0) _ _ g2,hof q hq'⟩
   ·have hMf:M≤fall ws M:=h5.low _ (h5.fj 1)
    have hMB:M<B:=by
     apply Nat.lt_of_not_le
     intro z
     have:=hB.from_ M z
     omega
    have hR:=hr.all R M L h5 (hm.all M hMB)
    have:(R.map fun d:Nat=>(d:Int))∈ls.map (·.2):=by rw [hlr];exact List.mem_map_of_mem hR
    obtain ⟨q,hq,e⟩:=List.mem_map.mp this
    exact ⟨q,ho.mem_iff.mpr hq,e⟩
theorem G7 (T:Txt mg) (F:aN K mg "check_limit" j4 ["limit","most"]) :nW P w K mg base:=by
 refine F.aZ uH.2 DX.2 DY (fun vs H Q E h=>?_) (fun f cdv A outer s H vs Q E hr h=>?_) <;> obtain ⟨l,m,rfl,h1,k⟩:=h
 ·rfl
 ·have hu:=hu_of hr
  refine ⟨_,(aq (aV (dX (aK u0 (qv 0) aB (nomark _)) (cM (aK oX (qv 0) (qv 1) (nomark _)))).qt (aq (eX)) aO)),?_⟩
  walk_at "wp"
  rw [if_neg (by omega),if_neg (by omega)]
  exact k
theorem vY (T:Txt mg) (F:aN K mg "counts_one_by_one" dF ["worths","limit"]) (cI:jE P w K mg base) (bU:iD P w K mg base) (d8:nW P w K mg base) (aR:cB P w K mg base):fC P w K mg base:=by
 refine F.aZ jy.2 uV.2 cX (fun vs H Q E h=>?_) (fun f cdv A outer s H vs Q E hr h=>?_) <;> obtain ⟨a,ws,lim,rfl,hS,hb,hlim,k⟩:=h
 ·rfl
 ·have hu:=hu_of hr
  refine ⟨_,(ao (aY (au aR (hr.mono (by decide)) pass0 (aj (qv 0) ak)))
   (ao (aY (au d8 (hr.mono (by decide)) pass0 (aj (qv 1) (aj (qN T.zp) ak))))
   (ao (aQ (i:=2) cX.nd rfl (Or.inl rfl) nj)
   (ao (bL PassesOwn.never rfl (iw (au (Good.alias bU T.dg) (hr.mono (by decide)) pass0 (aj (qv 0) ak))) (aW (i:=3) cX.nd rfl (Or.inl rfl)) (aq (rZ hu (qv 2) (bY cD (qv 3) aB (fun _ _=>rfl)) aB rfl)))
   (ao (bL PassesOwn.never rfl (bK rfl T.cJ (aj (qv 1) ak)) (aW (i:=4) cX.nd rfl (Or.inl rfl)) (aq (Zw hu (qv 2) (bY cD (bY cD (au (Good.alias cI T.dH) (hr.mono (by decide)) pass0 (aj (qv 0) (aj (qv 4) ak))) aB (fun _ _=>rfl)) aB (fun _ _=>rfl)) aB Am)))
   (aq (aG (cV (PB rfl) (by rfl) T.bW bH (aj (Wx (K:=K) rfl PySem.F.plainAttrs_dict PySem.F.slot_dict_values PySem.F.type_dict_values Uu (qv 2)) ak))))))))),?_⟩
  have hpow:∀ x,x≤3000→x<ws.length ^ 1001:=fun x hx=>by have:=yR hb.two;omega
  walk_at "wp"
  refine ⟨a,ws,rfl,hS,hb.two,hb.top,hb.le,?_⟩
  walk_at "wp"
  refine ⟨lim,3000,rfl,hlim,?_⟩
  walk_at "wp"
  refine fun d hd=>⟨a,ws,rfl,(Same.new hd).sq hS,hb.two,hb.top,hb.le,fun l out H2 hl hl2 ho Ut hlen hne hall h12=>?_⟩
  have hh:=nA hb (fun p hp=>(ho p hp).2.2) Ut hall
  have hd2:=h12 _ _ (upd_same (H:=H) (a:=d) (o:=.dK []))
  have U8:Same H H2:=(Same.new hd).trans h12
  have hol:out.length=(cH ws).length:=by have:=congrArg List.length hh;simpa using this
  have few:=hb.few
  walk_at "wp"
  refine pU.at (xs:=out.map fun p=>V.ref p.1) (bQ.of hl2) (fun i σ H3=>i≤out.length∧∃ v1,σ=[some (.ref a),some (vI lim),some (.ref d),v1,none]∧H3 d=some (.dK (wC (((cH ws).take i).map fun x=>(x,vI 0))))∧∀ b o,b≠d→H2 b=some o→H3 b=some o) ⟨Nat.zero_le _,none,rfl,hd2,fun b o _ e=>e⟩ ?_ ?_ ?_
  ·rintro i σ H3 _ ⟨_,v1,rfl,_,h3⟩ o e
   exact h3 l o (fun z=>by rw [z,hd2] at hl2;cases hl2) e
  ·rintro i x σ H3 N hx ⟨hi,v1,rfl,xP,h3⟩ hN
   rw [List.getElem?_map,Option.map_eq_some_iff] at hx
   obtain ⟨q,hq,rfl⟩:=hx
   have hqm:=List.mem_of_getElem? hq
   obtain ⟨hq0,hq2,R,M,L,hR,hqR⟩:=ho q hqm
   have hhd:q.2.headD 0=(M:Int):=by
    have:=hR.head
    rw [hqR]
    cases R with
    | nil=>cases this
    | cons x r=>have e:x=M:=Option.some.inj this;rw [e];rfl
   have hM:(cH ws)[i]? = some M:=by
    have e:=congrArg (fun l:List Int=>l[i]?) hh
    simp only [List.getElem?_map,hq] at e
    rw [Option.map_some,hhd] at e
    cases q3:(cH ws)[i]? with
    | none=>rw [q3] at e;cases e
    | some m=>rw [q3] at e;have e2:(M:Int)=(m:Int):=Option.some.inj e;rw [show m=M by omega]
   have hq0':(q.2.map V.int)[0]? = some (vI M):=by rw [hqR,List.getElem?_map,List.getElem?_map,hR.head];rfl
   have hqd:q.1≠d:=fun z=>by rw [z,hd2] at hq2;cases hq2
   have hil:i<(cH ws).length:=(List.getElem?_eq_some_iff.mp hM).1
   have hlk:(((cH ws).take i).map fun x=>(x,vI 0)).lookup M=none:=dG (by
    rw [keys_map]
    intro z
    obtain ⟨j,hj,e⟩:=List.mem_take_iff_getElem.mp z
    have:=iz (Ew ws) hM (by rw [List.getElem?_eq_getElem (show j<(cH ws).length by omega),e])
    omega)
   walk_at "wp"
   refine ⟨_,bQ.of (h3 _ _ hqd hq2),_,atI_nat (j:=0) hq0',?_⟩
   refine ⟨_,DPut.k (k:=Sum.inl ((M:Nat):Int)) xP (by rw [sE,List.length_map,List.length_take];exact aX (by omega)),?_⟩
   rw [wD hlk]
   refine hN _ _ ⟨by omega,_,rfl,?_,fun b o hb' e=>by rw [upd_ne hb'];exact h3 b o hb' e⟩
   rw [upd_same,List.take_add_one,hM,List.map_append];rfl
  ·rintro σ H3 ⟨_,v1,rfl,xP,h3⟩
   rw [List.length_map,hol,List.take_of_length_le (Nat.le_refl _)] at xP
   have Qq:Same H H3:=fun b o e=>h3 b o (ne_of_none e hd) (U8 b o e)
   walk_at "wp"
   refine ⟨by omega,by omega,mj.go (fun i σ H4=>∃ v2,σ=[some (.ref a),some (vI lim),some (.ref d),v1,v2]∧H4 d=some (.dK (wC ((cH ws).map fun x=>(x,vI (cnt ws i x)))))∧Same H H4) ⟨none,rfl,xP,Qq⟩ ?_ ?_⟩
   ·rintro i σ H4 N hi ⟨v2,rfl,Vd,h4⟩ hN
    walk_at "wp"
    refine ⟨a,ws,i,rfl,h4.sq hS,hb.two,hb.top,hb.le,hpow i (by omega),fun R' j rp t H5 hR' hrp ht aes Z4 h5=>?_⟩
    obtain ⟨L',Yu⟩:=hR'.hmR
    have hmem:=hb.Kh i
    walk_at "wp"
    refine ⟨_,bQ.ofT Z4,_,rfl,?_⟩
    walk_at "wp"
    refine ⟨_,bQ.of aes,vI (hm (fall ws) i),atI_nat (j:=0) (by rw [List.getElem?_map,Yu.head];rfl),?_⟩
    have hd5:=h5 _ _ Vd
    refine ⟨vI (cnt ws i (hm (fall ws) i)),?_,?_⟩
    ·have:=DGet.k (k:=Sum.inl ((hm (fall ws) i:Nat):Int)) hd5
     rw [dB,xX (F:=fun x=>vI (cnt ws i x)) hmem] at this
     exact this
    walk_at "wp"
    refine ⟨_,DPut.k (k:=Sum.inl ((hm (fall ws) i:Nat):Int)) hd5 (by rw [sE,List.length_map];exact aX (by omega)),?_⟩
    rw [Zx (F:=fun x=>vI (cnt ws i x)) hmem]
    refine hN _ _ ⟨_,rfl,?_,fun b o e=>by rw [upd_ne (ne_of_none e hd)];exact h5 _ _ (h4 _ _ e)⟩
    rw [upd_same]
    congr 3
    refine List.map_congr_left fun x _=>?_
    rw [M8]
    by_cases e:x=hm (fall ws) i
    ·rw [if_pos e,if_pos e.symm,e];rfl
    ·rw [if_neg e,if_neg fun z=>e z.symm];rfl
   ·rintro σ H4 ⟨v2,rfl,Vd,h4⟩
    walk_at "wp"
    refine ⟨Xz Vd,Xy Vd fun p H5 hp YH h5=>k p H5 (h4.free hp) ?_ (h4.trans h5)⟩
    rw [YH,XC (fun x=>vI (cnt ws lim x))]
theorem Ou (T:Txt mg) (F:aN K mg "add_each" sV ["tally","ahead","worths"]) :Dk P w K mg base:=by
 refine F.aZ zL.2 K1.2 zM (fun vs H Q E h=>?_) (fun f cdv A outer s H vs Q E hr h=>?_) <;> obtain ⟨l,a,n,ah,F,us,rfl,hl,hS,hla,hu',k⟩:=h
 ·rfl
 ·have hu:=hu_of hr
  refine ⟨_,(aq (bL PassesOwn.never rfl (iw (qv 2)) (aW (i:=3) zM.nd rfl (Or.inl rfl)) (aq (Et (qv 0) (bf op_add (qv 1) (qv 3)) (wF (K:=K) rfl) aB Am set_list)))),?_⟩
  walk_at "wp"
  refine pU.at (xs:=us.map vI) hS (fun j σ H4=>∃ v,σ=[some (.ref l),some (vI ah),some (.ref a),v]∧H4 l=some (.lst ((tab n (fun s=>F s+nq (us.take j) ah 1 s)).map vI))∧∀ b o,b≠l→H b=some o→H4 b=some o) ⟨none,rfl,?_,fun b o _ e=>e⟩ ?_ ?_ ?_
  ·rw [hl,List.take_zero]
   exact cG fun s _=>by rw [Mx];rfl
  ·rintro j σ H4 _ ⟨_,_,_,h4⟩ o e
   exact h4 a o hla.symm e
  ·rintro j x σ H4 N2 hx ⟨v3,rfl,GR,h4⟩ Vb
   rw [List.getElem?_map,Option.map_eq_some_iff] at hx
   obtain ⟨w,hw',rfl⟩:=hx
   have hwl:=hu' w (List.mem_of_getElem? hw')
   walk_at "wp"
   rw [show (ah:Int)+(w:Int)=((ah+w:Nat):Int) by omega]
   refine ⟨_,SqL.of GR,_,Fy hwl,?_⟩
   walk_at "wp"
   refine ⟨_,GR,ah+w,oZ (by rw [List.length_map,c7];omega),Vb _ _ ⟨_,rfl,?_,fun b o hb e=>?_⟩⟩
   ·rw [upd_same]
    rw [show (V.int ((F (ah+w)+nq (us.take j) ah 1 (ah+w):Nat)+(1:Int)))=vI (F (ah+w)+nq (us.take j) ah 1 (ah+w)+1) by rw [vI];congr 1]
    rw [←List.map_set,Kc]
    refine cG (fun s _=>?_)
    rw [Jp hw']
    by_cases e:s=ah+w
    ·rw [if_pos e,if_pos e,e];omega
    ·rw [if_neg e,if_neg e];omega
   ·rw [upd_ne hb];exact h4 _ _ hb e
  ·rintro σ H4 ⟨v3,rfl,GR,h4⟩
   walk_at "wp"
   rw [List.length_map,List.take_of_length_le (Nat.le_refl _)] at GR
   exact k H4 GR h4
theorem G8 (T:Txt mg) (F:aN K mg "tally_below" j5 ["worths","limit"]) (ou:Dk P w K mg base) (dR:pY P w K mg base) (d7:nU P w K mg base):vU P w K mg base:=by
 refine F.aZ uI.2 Ea.2 cO (fun vs H Q E h=>?_) (fun f cdv A outer s H vs Q E hr h=>?_) <;> obtain ⟨a,ws,lim,rfl,hS,hb,hlim,k⟩:=h
 ·rfl
 ·have hu:=hu_of hr
  refine ⟨_,(ao (aQ (i:=2) cO.nd rfl (Or.inl rfl) (au d7 (hr.mono (by decide)) pass0 (aj (qv 1) (aj (aA aM (by rfl) T.cF PySem.boot_len (aj (qv 0) ak)) ak))))
   (ao (aQ (i:=3) cO.nd rfl (Or.inl rfl) (bf O8 (eV (aj aB ak)) (bf op_add (qN T.sH) aB)))
   (ao (aY (au ou (hr.mono (by decide)) pass0 (aj (qv 3) (aj aB (aj (iI (Ka (K:=K) rfl) (qv 0) (jT aB) (jT (bY cD (qv 2) aB (fun _ _=>rfl)))) ak)))))
   (ao (aQ (i:=4) cO.nd rfl (Or.inl rfl) (bY cD (qv 0) (bY cD (qv 2) aB (fun _ _=>rfl)) (fun _ _=>rfl)))
   (ao (bL PassesOwn.never rfl (iw (iI Ma (qv 2) (jT aB) oY)) (aW (i:=5) cO.nd rfl (Or.inl rfl)) (ao (aQ (i:=3) cO.nd rfl (Or.inl rfl) (au dR (hr.mono (by decide)) pass0 (aj (qv 3) (aj (qv 0) ak))))
   (ao (aY (au ou (hr.mono (by decide)) pass0 (aj (qv 3) (aj aB (aj (iI (Ka (K:=K) rfl) (qv 0) (jT aB) oY) ak)))))
   (ao (aY (au ou (hr.mono (by decide)) pass0 (aj (qv 3) (aj (qv 4) (aj (iI (Ka (K:=K) rfl) (qv 0) oY (jT (qv 5))) ak)))))
   (aq (abz (i:=4) cO.nd rfl (Or.inl rfl) (bY cD (qv 0) (qv 5) (fun _ _=>rfl)) Am))))))
   (ao (aV (aK oX (qv 1) aB (nomark _)) (aq (Et (qv 3) (bY cD (qv 0) aB (fun _ _=>rfl)) (wF (K:=K) rfl) aB Am set_list)) aO)
   (aq (aG (qv 3))))))))),?_⟩
  have h2:=hb.two
  have ade:lim<ws.length ^ 1001:=Nat.lt_of_le_of_lt hlim (Nat.pow_lt_pow_right (by omega) (by decide))
  have adf:lim<ws.length ^ 21:=Nat.lt_of_le_of_lt hlim (Nat.pow_lt_pow_right (by omega) (by decide))
  walk_at "wq"
  refine ⟨_,hS,?_⟩
  rw [List.length_map]
  refine ⟨lim,ws.length,rfl,hb.two,hb.top,ade,fun rp H1 hr hr1 h1=>?_⟩
  have hnum:num ws.length (fl ws.length lim).reverse=lim:=by unfold num;rw [List.reverse_reverse];exact abx h2 lim
  have hrl:(fl ws.length lim).reverse.length≤21:=by rw [List.length_reverse];exact Fo h2 21 lim (by decide) adf
  have hrd:∀ d∈(fl ws.length lim).reverse,d<ws.length:=fun d hd=>WD h2 lim d (List.mem_reverse.mp hd)
  have hrn:(fl ws.length lim).reverse≠[]:=by simpa using RW
  have hrt:(fl ws.length lim).reverse.length=1∨(fl ws.length lim).reverse[0]? ≠ some 0:=by
   rcases aby h2 lim with z | z
   ·exact .inl (by rw [List.length_reverse];exact z)
   ·exact .inr (by rw [←List.head?_eq_getElem?,List.head?_reverse];exact z)
  generalize (fl ws.length lim).reverse=rs at hr1 hnum hrl hrd hrn hrt
  have hr0:1≤rs.length:=List.length_pos_iff.mpr hrn
  obtain ⟨d0,hd0⟩:∃ d0,rs[0]? = some d0:=⟨_,List.getElem?_eq_getElem (by omega)⟩
  have adh:=hrd d0 (List.mem_of_getElem? hd0)
  have hpos:∀ j,1≤j→j≤rs.length→2≤rs.length→1≤num ws.length (rs.take j):=fun j hj1 hj2 hl=>S7 h2 hd0 (by
   rcases hrt with z | z
   ·omega
   ·have:d0≠0:=fun e=>z (by rw [hd0,e])
    omega) j hj1 hj2
  have hN1:num ws.length (rs.take 1)=d0:=by
   rw [Fq hd0];show 0*ws.length+d0=d0;rw [Nat.zero_mul,Nat.zero_add]
  walk_at "wq"
  refine ⟨by decide,fun z hz=>⟨_,upd_same,by decide,fun p hp=>?_⟩⟩
  rw [Mw]
  have h1p:Same H1 (upd (upd H1 z (.lst [.int 0])) p (.lst ((tab 51 (fun _=>0)).map vI))):=(Same.new hz).trans (Same.new hp)
  have hpH:H p=none:=h1.free ((Same.new hz).free hp)
  have hpr:rp≠p:=ne_of_none (Same.new (o:=.lst [.int 0]) hz _ _ hr1) hp
  have hpp:upd (upd H1 z (.lst [.int 0])) p (.lst ((tab 51 (fun _=>0)).map vI)) p=some (.lst ((tab 51 (fun _=>0)).map vI)):=upd_same
  generalize upd (upd H1 z (.lst [.int 0])) p (.lst ((tab 51 (fun _=>0)).map vI))=H2 at h1p hpp
  walk_at "wp"
  refine ⟨_,bQ.of (h1p _ _ hr1),vI d0,atI_nat (j:=0) (by rw [List.getElem?_map,hd0];rfl),?_⟩
  walk_at "wq"
  refine Eu ((h1.trans h1p).sq hS) ?_ (fun u H3 hu hu3 h3=>?_)
  ·exact Jv (by rw [List.length_map];omega)
  rw [Zt (by rw [List.length_map];omega) (by rw [List.length_map];omega),←List.map_tail,←List.map_take] at hu3
  have hup:p≠u:=ne_of_none hpp hu
  refine ⟨p,u,51,0,fun _=>0,ws.tail.take (d0 - 1),rfl,h3 _ _ hpp,hu3,hup,fun x hx=>by have:=hb.le x (List.mem_of_mem_tail (List.mem_of_mem_take hx));omega,fun H4 GR h4=>?_⟩
  have ZW:∀ b o,b≠p→H2 b=some o→H4 b=some o:=fun b o hb' e=>h4 b o hb' (h3 _ _ e)
  have K8:Same H H4:=fun b o e=>ZW b o (ne_of_none e hpH) (h1p _ _ (h1 _ _ e))
  have hr4:H4 rp=some (.lst (rs.map vI)):=ZW _ _ hpr (h1p _ _ hr1)
  walk_at "wq"
  refine ⟨_,bQ.of hr4,vI d0,atI_nat (j:=0) (by rw [List.getElem?_map,hd0];rfl),?_⟩
  walk_at "wq"
  refine ⟨_,K8.sq hS,_,Fp adh,_,SqL.of hr4,fun q hq=>?_⟩
  rw [S9 (by rw [List.length_map];omega),←List.map_tail,←List.drop_one]
  have hpq:p≠q:=ne_of_none GR hq
  refine pU.at (xs:=(rs.drop 1).map vI) (bQ.of upd_same) (fun i σ H5=>i+1≤rs.length∧∃ (t:Addr) (v:Option V),σ=[some (.ref a),some (vI lim),some (.ref rp),some (.ref t),some (vI (fall ws (num ws.length (rs.take (i+1))))),v]∧H t=none∧t≠q∧H5 t=some (.lst ((tab (50*(i+1)+1) (cin ws 1 (num ws.length (rs.take (i+1)) - 1))).map vI))∧H5 q=some (.lst ((rs.drop 1).map vI))∧Same H H5) ⟨by omega,p,none,?_,hpH,hpq,?_,upd_same,K8.trans (Same.new hq)⟩ ?_ ?_ ?_
  ·rw [hN1,yQ adh]
  ·rw [upd_ne hpq,GR]
   refine cG fun s _=>?_
   rw [hN1,Xn h2 (by omega)];exact Nat.zero_add _
  ·rintro i σ H5 _ ⟨_,t,v,rfl,_,_,_,hq5,_⟩ o e
   rw [upd_same] at e;cases e;exact hq5
  ·rintro i x σ H5 N hx ⟨hi,t,v,rfl,htH,htq,Z4,hq5,h5⟩ hN
   rw [List.getElem?_map,Option.map_eq_some_iff] at hx
   obtain ⟨d,hd,rfl⟩:=hx
   rw [List.getElem?_drop] at hd
   have hil:i+1<rs.length:=by have:=(List.getElem?_eq_some_iff.mp hd).1;omega
   have hdb:=hrd d (List.mem_of_getElem? hd)
   rw [Nat.add_comm 1 i] at hd
   have hNn:=Fq (b:=ws.length) hd
   have hNp:=hpos (i+1) (by omega) (by omega) (by omega)
   have hNl:=S8 h2 hrd (i+1) (by omega)
   generalize hNe:num ws.length (rs.take (i+1))=n at hNn hNp hNl Z4
   have hfn:=vg h2 hb.le (n:=i+1) (x:=n) (by omega) hNl
   walk_at "wq"
   refine ⟨t,a,_,ws,rfl,Z4,h5.sq hS,by rw [c7];omega,hb.le,fun t2 H6 ZD h62 h6=>?_⟩
   rw [c7] at h62
   have abV:t2≠q:=fun e=>by rw [e,hq5] at ZD;cases ZD
   walk_at "wq"
   refine Eu (h6.sq (h5.sq hS)) ?_ (fun u1 H7 hu1 adl h7=>?_)
   ·exact Jv (by rw [List.length_map];omega)
   rw [S9 (by rw [List.length_map];omega),←List.map_tail] at adl
   refine ⟨t2,u1,_,0,_,ws.tail,rfl,h7 _ _ h62,adl,ne_of_none h62 hu1,fun x hx=>by have:=hb.le x (List.mem_of_mem_tail hx);omega,fun H8 h82 h8=>?_⟩
   have abW:H t2=none:=h5.free ZD
   have hs8:Same H H8:=fun b o e=>h8 b o (ne_of_none e abW) (h7 _ _ (h6 _ _ (h5 _ _ e)))
   walk_at "wq"
   refine Eu (hs8.sq hS) ?_ (fun u2 H9 hu2 adn h9=>?_)
   ·rw [HT.rR,List.length_map];omega
   rw [Pg (by rw [List.length_map];omega),←List.map_take] at adn
   refine ⟨t2,u2,_,fall ws n,_,ws.take d,rfl,h9 _ _ h82,adn,ne_of_none h82 hu2,fun x hx=>by have:=hb.le x (List.mem_of_mem_take hx);omega,fun H10 aew h10=>?_⟩
   have ado:Same H H10:=fun b o e=>h10 b o (ne_of_none e abW) (h9 _ _ (hs8 _ _ e))
   walk_at "wq"
   refine ⟨_,ado.sq hS,_,Fp hdb,?_⟩
   walk_at "wq"
   refine hN _ _ ⟨by omega,t2,some (vI d),?_,abW,abV,?_,h10 _ _ abV.symm (h9 _ _ (h8 _ _ abV.symm (h7 _ _ (h6 _ _ hq5)))),ado⟩
   ·rw [hNn,FN h2 hNp hdb];rfl
   ·rw [aew,show 50*(i+1+1)+1=50*(i+1)+1+50 by omega]
    refine cG fun s _=>?_
    rw [hNn,Xo h2 hNp (by omega)]
    congr 2
    refine Mz fun j _=>?_
    rw [Mv]
    by_cases e:j<50*(i+1)+1
    ·rw [if_pos e]
    ·rw [if_neg e,SN hb (n:=i+1) (by omega) (by omega) (by omega)]
  ·rintro σ H5 ⟨_,t,v,rfl,htH,htq,Z4,hq5,h5⟩
   have e1:rs.take (((rs.drop 1).map vI).length+1)=rs:=List.take_of_length_le (by rw [List.length_map,List.length_drop];omega)
   have e2:((rs.drop 1).map vI).length+1=rs.length:=by rw [List.length_map,List.length_drop];omega
   rw [e1,hnum,e2] at Z4
   have hall:∀ n,n<lim→fall ws n<50*rs.length+1:=fun n hn=>by
    have h8:=S8 h2 hrd rs.length (Nat.le_refl _)
    rw [List.take_of_length_le (Nat.le_refl _),hnum] at h8
    have:=vg h2 hb.le (n:=rs.length) (x:=n) hr0 (by omega)
    omega
   walk_at "wq"
   refine ite2 (fun c=>?_) (fun c=>?_)
   ·have hw0:=aat hb.le 0
    refine ⟨_,h5.sq hS,_,Fp (d:=0) (by omega),?_⟩
    walk_at "wq"
    refine ⟨_,SqL.of Z4,_,Fy (by omega),?_⟩
    walk_at "wq"
    refine ⟨_,Z4,wt ws 0,oZ (by rw [List.length_map,c7];omega),k t _ _ htH ?_ (by omega) hall (fun b o e=>by rw [upd_ne (ne_of_none e htH)];exact h5 _ _ e)⟩
    rw [upd_same]
    rw [show (V.int ((cin ws 1 (lim - 1) (wt ws 0):Nat)+(1:Int)))=vI (cin ws 1 (lim - 1) (wt ws 0)+1) by rw [vI];congr 1]
    rw [←List.map_set,Kc]
    refine cG (fun s _=>?_)
    rw [SQ h2,if_pos (c:=0<lim) (by omega)]
    by_cases e:s=wt ws 0
    ·rw [if_pos e,if_pos e,e];omega
    ·rw [if_neg e,if_neg e];omega
   ·refine k t _ _ htH ?_ (by omega) hall h5
    rw [Z4]
    refine cG (fun s _=>?_)
    rw [SQ h2,if_neg (c:=0<lim) (by omega)];omega
theorem G9 (T:Txt mg) (F:aN K mg "ring_places" j6 ["worths"]) (cW:mY P w K mg base) (cI:jE P w K mg base) (jF:vR P w K mg base) (bU:iD P w K mg base):vV P w K mg base:=by
 refine F.aZ uJ.2 Eb.2 cP (fun vs H Q E h=>?_) (fun f cdv A outer s H vs Q E hr h=>?_) <;> obtain ⟨a,ws,rfl,hS,hb,k⟩:=h
 ·rfl
 ·have hu:=hu_of hr
  refine ⟨_,(ao (aQ (i:=1) cP.nd rfl (Or.inr rfl) nj)
   (ao (bL PassesOwn.never rfl (J8 rfl T.vA (aj (au (Good.alias bU T.dg) (hr.mono (by decide)) pass0 (aj (qv 0) ak)) ak)) (Ph (K:=K) rfl rfl (qQ (aW (i:=2) cP.nd rfl (Or.inl rfl)) (qQ (aW (i:=3) cP.nd rfl (Or.inl rfl)) J9))) (aq (rZ hu (qv 1) (bY cD (qv 3) aB (fun _ _=>rfl)) (qv 2) rfl)))
   (ao (aQ (i:=4) cP.nd rfl (Or.inl rfl) (au jF (hr.mono (by decide)) pass0 (aj (qv 0) ak)))
   (ao (W0 (i:=5) cP.nd rfl rfl ⟨rfl,rfl,rfl,rfl,rfl,rfl,rfl,rfl⟩ rfl (bK rfl T.cJ (aj (qv 4) ak)) (fun _ _ _ _=>(wB hu (qv 2) (bY (J3 (K:=K) rfl) (bY (J3 (K:=K) rfl) (au (Good.alias cI T.dH) (hr.mono (by decide)) pass0 (aj (qv 1) (aj (qv 0) ak))) aB (fun _ _=>rfl)) aB (fun _ _=>rfl)) (fun _ _=>rfl))) (fun _ _ _ _=>aW (i:=0) (show (["number","worths","place_by_least","place","ring","bound","places",""]:List Str).Nodup by decide +kernel) rfl (Or.inl rfl) (.inr rfl)))
   (ao (bL PassesOwn.never rfl (Jf rfl T.cJ (aj (qv 4) (aj (bf op_add (qN T.N5) aB) ak))) (aW (i:=6) cP.nd rfl (Or.inl rfl)) (aq (aY (iJ (K:=K) rfl PySem.F.plainAttrs_list PySem.F.slot_list_append PySem.F.type_list_append bN (qv 5) (aj (bY cD (qv 5) (au cW (hr.mono (by decide)) pass0 (aj (qv 0) (aj (qv 6) ak))) (fun _ _=>rfl)) ak)))))
   (aq (aG (qv 5)))))))),?_⟩
  have h2:=hb.two
  have hpow:∀ x,x≤1001→x<ws.length ^ 1001:=fun x hx=>by have:=yR h2;omega
  walk_at "wp"
  refine fun d hd=>⟨a,ws,rfl,(Same.new hd).sq hS,hb.two,hb.top,hb.le,fun l out H2 hl hl2 ho Ut hlen hne hall h12=>?_⟩
  have hh:=nA hb (fun p hp=>(ho p hp).2.2) Ut hall
  have hd2:=h12 _ _ (upd_same (H:=H) (a:=d) (o:=.dK []))
  have U8:Same H H2:=(Same.new hd).trans h12
  have hol:out.length=(cH ws).length:=by have:=congrArg List.length hh;simpa using this
  have aex:=hb.few
  walk_at "wp"
  refine Uk.go (xs:=out.map fun p=>V.ref p.1) (SqL.of hl2) (fun i σ H3=>i≤out.length∧∃ v1 v2,σ=[some (.ref a),some (.ref d),v1,v2,none,none,none]∧H3 d=some (.dK (wC (lps ws i)))∧∀ b o,b≠d→H2 b=some o→H3 b=some o) ⟨Nat.zero_le _,none,none,rfl,hd2,fun b o _ e=>e⟩ ?_ ?_ ?_
  ·rintro i σ H3 _ ⟨_,v1,v2,rfl,_,h3⟩ o e
   exact h3 l o (fun z=>by rw [z,hd2] at hl2;cases hl2) e
  ·rintro i x t σ H3 N hx ⟨hi,v1,v2,rfl,xP,h3⟩ ht hN
   rw [List.getElem?_map,Option.map_eq_some_iff] at hx
   obtain ⟨q,hq,rfl⟩:=hx
   have hqm:=List.mem_of_getElem? hq
   obtain ⟨hq0,hq2,R,M,L,hR,hqR⟩:=ho q hqm
   have hhd:q.2.headD 0=(M:Int):=by
    have:=hR.head
    rw [hqR]
    cases R with
    | nil=>cases this
    | cons x r=>have e:x=M:=Option.some.inj this;rw [e];rfl
   have hM:(cH ws)[i]? = some M:=by
    have e:=congrArg (fun l:List Int=>l[i]?) hh
    simp only [List.getElem?_map,hq] at e
    rw [Option.map_some,hhd] at e
    cases q3:(cH ws)[i]? with
    | none=>rw [q3] at e;cases e
    | some m=>rw [q3] at e;have e2:(M:Int)=(m:Int):=Option.some.inj e;rw [show m=M by omega]
   have hq0':(q.2.map V.int)[0]? = some (vI M):=by rw [hqR,List.getElem?_map,List.getElem?_map,hR.head];rfl
   have hqd:q.1≠d:=fun z=>by rw [z,hd2] at hq2;cases hq2
   have hdt:d≠t:=ne_of_none xP ht
   walk_at "wp"
   refine ⟨_,SqT.of upd_same,by rfl,?_⟩
   walk_at "wp"
   have h3':∀ b o,b≠d→H2 b=some o→upd H3 t (.tup [.int (i:Int),.ref q.1]) b=some o:=fun b o hb' e=>Same.new ht _ _ (h3 b o hb' e)
   have adp:upd H3 t (.tup [.int (i:Int),.ref q.1]) d=some (.dK (wC (lps ws i))):=by rw [upd_ne hdt];exact xP
   generalize upd H3 t (.tup [.int (i:Int),.ref q.1])=H4 at h3' adp
   refine ⟨_,bQ.of (h3' _ _ hqd hq2),_,atI_nat (j:=0) hq0',?_⟩
   have hil:i<out.length:=(List.getElem?_eq_some_iff.mp hq).1
   refine ⟨_,DPut.k (k:=Sum.inl ((M:Nat):Int)) adp (by rw [sE,Zr];exact aX (by omega)),?_⟩
   rw [wD (S5 hM)]
   refine hN _ _ ⟨by omega,_,_,rfl,?_,fun b o hb' e=>by rw [upd_ne hb'];exact h3' b o hb' e⟩
   rw [upd_same,Nb,List.getD_eq_getElem?_getD,hM];rfl
  ·rintro σ H3 ⟨_,v1,v2,rfl,xP,h3⟩
   rw [List.length_map,hol] at xP
   have Qq:Same H H3:=fun b o e=>h3 b o (ne_of_none e hd) (U8 b o e)
   walk_at "wp"
   refine ⟨a,ws,rfl,Qq.sq hS,hb.two,hb.top,hb.le,fun B H4 hB ac8 h4=>?_⟩
   walk_at "wp"
   have K8:Same H H4:=Qq.trans h4
   have Vd:=h4 _ _ xP
   refine ⟨by omega,by omega,Ze.map (f:=fun n=>vI (ix ws (hm (fall ws) n))) (aX (by omega)) (fun n H5 R hn h5 hR=>?_) (fun p H5 hp YH h5=>?_)⟩
   ·walk_at "wp"
    refine ⟨a,ws,n,rfl,(K8.trans h5).sq hS,hb.two,hb.top,hb.le,hpow n (by omega),fun R' j rp t H6 hR' hrp ht aey ht6 h6=>?_⟩
    obtain ⟨L',Yu⟩:=hR'.hmR
    walk_at "wp"
    refine ⟨_,bQ.ofT ht6,_,rfl,?_⟩
    walk_at "wp"
    refine ⟨_,bQ.of aey,vI (hm (fall ws) n),atI_nat (j:=0) (by rw [List.getElem?_map,Yu.head];rfl),?_⟩
    have hmem:=hb.Kh n
    refine ⟨vI (ix ws (hm (fall ws) n)),?_,hR _ h6⟩
    have:=DGet.k (k:=Sum.inl ((hm (fall ws) n:Nat):Int)) (h6 _ _ (h5 _ _ Vd))
    rw [dB,S6 (Nat.le_refl _) (aay hmem) hmem] at this
    exact this
   ·refine ⟨⟨by omega,by omega⟩,?_⟩
    rw [show ((1001:Int) - (B:Int)).toNat=1001 - B by omega]
    have hpH:H p=none:=K8.free hp
    refine mj.go (fun i σ H6=>∃ v,σ=[some (.ref a),some (.ref d),v1,v2,some (vI B),some (.ref p),v]∧H6 p=some (.lst ((tab (B+i) (fun n=>ix ws (hm (fall ws) n))).map vI))∧Same H H6) ⟨none,rfl,?_,K8.trans h5⟩ ?_ ?_
    ·rw [YH];unfold tab;rw [List.map_map];rfl
    ·rintro i σ H6 N hi ⟨v,rfl,Ve,h6⟩ hN
     rw [show (B:Int)+(i:Int)=((B+i:Nat):Int) by omega]
     walk_at "wp"
     refine ⟨⟨_,SqL.of Ve⟩,a,ws,B+i,rfl,h6.sq hS,hb.two,hb.top,hpow _ (by omega),fun H7 h7=>?_⟩
     have hlt:=hB.from_ (B+i) (by omega)
     walk_at "wp"
     refine ⟨_,bQ.of (h7 _ _ Ve),_,Fy hlt,_,h7 _ _ Ve,by rw [List.length_map,c7];exact aX (by omega),hN _ _ ⟨_,rfl,?_,fun b o e=>by rw [upd_ne (ne_of_none e hpH)];exact h7 _ _ (h6 _ _ e)⟩⟩
     rw [upd_same,hb.Kg]
     unfold tab
     rw [←Nat.add_assoc,List.range_succ,List.map_append,List.map_append];rfl
    ·rintro σ H6 ⟨v,rfl,Ve,h6⟩
     walk_at "wp"
     rw [show B+(1001 - B)=1001 by omega] at Ve
     exact k p H6 hpH Ve h6
theorem yD (T:Txt mg) (F:aN K mg "first_uncounted" eG ["base"]) :nY P w K mg base:=by
 refine F.aZ lY.2 wQ.2 wR (fun vs H Q E h=>?_) (fun f cdv A outer s H vs Q E hr h=>?_) <;> obtain ⟨b,rfl,h1,h2,k⟩:=h
 ·rfl
 ·have hu:=hu_of hr
  refine ⟨_,(aq (aG (bf aa2 (qv 0) aB))),?_⟩
  walk_at "wp"
  refine ⟨⟨by decide,by omega,by omega⟩,?_⟩
  rw [show (V.int ((b:Int) ^ 20))=vI (b ^ 20) by rw [vI,Int.natCast_pow]]
  exact k
theorem Eo (T:Txt mg) (F:aN K mg "counts_below" jc ["worths","limit"]) (p7:vU P w K mg base) (p8:vV P w K mg base) (bU:iD P w K mg base) (d8:nW P w K mg base) (jg:nY P w K mg base) (aR:cB P w K mg base):kJ P w K mg base:=by
 refine F.aZ q9.2 BL.2 dJ (fun vs H Q E h=>?_) (fun f cdv A outer s H vs Q E hr h=>?_) <;> obtain ⟨a,ws,lim,rfl,hS,hb,hlim,k⟩:=h
 ·rfl
 ·have hu:=hu_of hr
  refine ⟨_,(ao (aY (au aR (hr.mono (by decide)) pass0 (aj (qv 0) ak)))
   (ao (aY (au d8 (hr.mono (by decide)) pass0 (aj (qv 1) (aj (au jg (hr.mono (by decide)) pass0 (aj (aA aM (by rfl) T.cF PySem.boot_len (aj (qv 0) ak)) ak)) ak))))
   (ao (aQ (i:=2) dJ.nd rfl (Or.inl rfl) (bf O8 (eV (aj aB ak)) (aA aM (by rfl) T.cF PySem.boot_len (aj (au (Good.alias bU T.dg) (hr.mono (by decide)) pass0 (aj (qv 0) ak)) ak))))
   (ao (aQ (i:=3) dJ.nd rfl (Or.inl rfl) (au p8 (hr.mono (by decide)) pass0 (aj (qv 0) ak)))
   (ao (bL PassesOwn.never rfl (J8 rfl T.vA (aj (au p7 (hr.mono (by decide)) pass0 (aj (qv 0) (aj (qv 1) ak))) ak)) (Ph (K:=K) rfl rfl (qQ (aW (i:=4) dJ.nd rfl (Or.inl rfl)) (qQ (aW (i:=5) dJ.nd rfl (Or.inl rfl)) J9))) (aq (aV (aK oX (qv 5) aB (nomark _)) (aq (Et (qv 2) (bY cD (qv 3) (qv 4) (fun _ _=>rfl)) (wF (K:=K) rfl) (qv 5) Am set_list)) aO)))
   (aq (aG (qv 2)))))))),?_⟩
  walk_at "wp"
  refine ⟨a,ws,rfl,hS,hb.two,hb.top,hb.le,?_⟩
  walk_at "wp"
  refine ⟨_,hS,?_⟩
  rw [List.length_map]
  refine ⟨ws.length,rfl,hb.two,hb.top,lim,ws.length ^ 20,rfl,hlim,?_⟩
  walk_at "wp"
  refine ⟨by decide,fun z hz=>⟨a,ws,rfl,(Same.new hz).sq hS,hb.two,hb.top,hb.le,fun l out H2 hl hl2 ho Ut hlen hne hall h12=>?_⟩⟩
  have hh:=nA hb (fun p hp=>(ho p hp).2.2) Ut hall
  have hol:out.length=(cH ws).length:=by have:=congrArg List.length hh;simpa using this
  have U8:Same H H2:=(Same.new hz).trans h12
  have hz2:=h12 _ _ (upd_same (H:=H) (a:=z) (o:=.lst [.int 0]))
  have aex:=hb.few
  walk_at "wp"
  refine ⟨_,bQ.of hl2,?_⟩
  rw [List.length_map,hol]
  walk_at "wp"
  refine ⟨_,hz2,by omega,by omega,by rw [List.length_singleton,Nat.one_mul];exact Nat.le_of_lt (aX (by omega)),fun p hp=>?_⟩
  rw [Jw]
  have hpH:H p=none:=U8.free hp
  have abX:Same H (upd H2 p (.lst ((cH ws).map fun _=>vI 0))):=U8.trans (Same.new hp)
  have hpp:upd H2 p (.lst ((cH ws).map fun _=>vI 0)) p=some (.lst ((cH ws).map fun _=>vI 0)):=upd_same
  generalize upd H2 p (.lst ((cH ws).map fun _=>vI 0))=H3 at abX hpp
  refine ⟨a,ws,rfl,abX.sq hS,hb,fun pl H4 hpl aez h4=>?_⟩
  have K8:Same H H4:=abX.trans h4
  refine ⟨a,ws,lim,rfl,K8.sq hS,hb,hlim,fun tl L H5 htl aeA hL hfl h5=>?_⟩
  have aeB:Same H H5:=K8.trans h5
  have YH:=h5 _ _ (h4 _ _ hpp)
  have aeC:=h5 _ _ aez
  have htp:tl≠p:=fun e=>by rw [e,h4 _ _ hpp] at htl;cases htl
  have aeD:pl≠p:=fun e=>by rw [e,hpp] at hpl;cases hpl
  walk_at "wp"
  refine Uk.go (xs:=(tab L (cin ws 0 lim)).map vI) (SqL.of aeA) (fun i σ H6=>i≤L∧∃ v1 v2,σ=[some (.ref a),some (vI lim),some (.ref p),some (.ref pl),v1,v2]∧H6 p=some (.lst ((cH ws).map fun M=>vI (cby ws lim i M)))∧∀ b o,b≠p→H5 b=some o→H6 b=some o) ⟨Nat.zero_le _,none,none,rfl,YH,fun b o _ e=>e⟩ ?_ ?_ ?_
  ·rintro i σ H6 _ ⟨_,v1,v2,rfl,_,h6⟩ o e
   exact h6 tl o htp e
  ·rintro i x t σ H6 N hx ⟨hi,v1,v2,rfl,Ve,h6⟩ ht hN
   rw [List.getElem?_map,Option.map_eq_some_iff] at hx
   obtain ⟨m,hm',rfl⟩:=hx
   have hiL:i<L:=by have:=(List.getElem?_eq_some_iff.mp hm').1;rw [c7] at this;exact this
   rw [yW hiL] at hm'
   obtain rfl:=Option.some.inj hm'
   walk_at "wp"
   refine ⟨_,SqT.of upd_same,by rfl,?_⟩
   walk_at "wp"
   have h6':∀ b o,b≠p→H5 b=some o→upd H6 t (.tup [.int (i:Int),vI (cin ws 0 lim i)]) b=some o:=fun b o hb' e=>Same.new ht _ _ (h6 b o hb' e)
   have Z5:upd H6 t (.tup [.int (i:Int),vI (cin ws 0 lim i)]) p=some (.lst ((cH ws).map fun M=>vI (cby ws lim i M))):=by rw [upd_ne (ne_of_none Ve ht)];exact Ve
   generalize upd H6 t (.tup [.int (i:Int),vI (cin ws 0 lim i)])=H7 at h6' Z5
   refine ite2 (fun c=>?_) (fun c=>?_)
   ·have abY:i<1001:=by
     apply Nat.lt_of_not_le
     intro z
     have:=SN hb (lo:=0) (m:=lim) (n:=20) (s:=i) (by decide) (by omega) (by omega)
     omega
    have hmem:=hb.Kh i
    have hat:=Xq hmem
    refine ⟨_,bQ.of (h6' _ _ aeD aeC),_,Fy abY,?_⟩
    walk_at "wp"
    refine ⟨_,SqL.of Z5,vI (cby ws lim i (hm (fall ws) i)),atI_nat (by rw [List.getElem?_map,hat];rfl),?_⟩
    walk_at "wp"
    refine ⟨_,Z5,ix ws (hm (fall ws) i),oZ (by rw [List.length_map];exact aay hmem),hN _ _ ⟨by omega,_,_,rfl,?_,fun b o hb' e=>by rw [upd_ne hb'];exact h6' b o hb' e⟩⟩
    rw [upd_same,Pz (Ew ws) hat]
    congr 2
    refine List.map_congr_left fun M _=>?_
    rw [M9]
    by_cases e:M=hm (fall ws) i
    ·rw [if_pos e,if_pos e.symm,e];rfl
    ·rw [if_neg e,if_neg fun z=>e z.symm];rfl
   ·refine hN _ _ ⟨by omega,_,_,rfl,?_,h6'⟩
    rw [Z5]
    congr 2
    refine List.map_congr_left fun M _=>?_
    rw [M9,show cin ws 0 lim i=0 by omega]
    split <;> rfl
  ·rintro σ H6 ⟨_,v1,v2,rfl,Ve,h6⟩
   walk_at "wp"
   rw [List.length_map,c7] at Ve
   refine k p H6 hpH ?_ (fun b o e=>h6 b o (ne_of_none e hpH) (aeB _ _ e))
   rw [Ve]
   congr 2
   exact List.map_congr_left fun M _=>by rw [SX hb L M lim hfl]
theorem K9 (T:Txt mg) (F:aN K mg "_law_told" pB ["_law_which","_law_row_here","_law_number","_law_length"]) (mZ:yu P w K mg base) (iG:sY P w K mg base) (cA:fC P w K mg base) (dM:kJ P w K mg base) (bU:iD P w K mg base) (cI:jE P w K mg base) (fX:sZ P w K mg base):z9 P w K mg base:=by
 refine F.aZ xg.2 HY.2 Ia (fun vs H Q E h=>?_) (fun f cdv A outer s H vs Q E hr h=>?_) <;> obtain ⟨wh,n,len,ws,a,rfl,hwh,hS,hb,hn,hl1,hl3,k⟩:=h
 ·rfl
 ·have hu:=hu_of hr
  refine ⟨_,(ao (aV (aK op_eq (qv 0) aB (nomark _)) (aq (aG (au (Good.alias fX T.jD) (hr.mono (by decide)) pass0 (aj (qv 1) (aj (qv 2) ak))))) aO)
   (ao (aV (aK op_eq (qv 0) aB (nomark _)) (aq (aG (au (Good.alias cI T.dH) (hr.mono (by decide)) pass0 (aj (qv 1) (aj (qv 2) ak))))) aO)
   (ao (aV (aK op_eq (qv 0) aB (nomark _)) (aq (aG (au (Good.alias bU T.dg) (hr.mono (by decide)) pass0 (aj (qv 1) ak)))) aO)
   (ao (aV (aK op_eq (qv 0) aB (nomark _)) (aq (aG (au (Good.alias dM T.iR) (hr.mono (by decide)) pass0 (aj (qv 1) (aj (qv 2) ak))))) aO)
   (ao (aV (aK op_eq (qv 0) aB (nomark _)) (aq (aG (au (Good.alias cA T.eE) (hr.mono (by decide)) pass0 (aj (qv 1) (aj (qv 2) ak))))) aO)
   (ao (aV (aK op_eq (qv 0) aB (nomark _)) (aq (aG (au (Good.alias iG T.lW) (hr.mono (by decide)) pass0 (aj (qv 1) (aj (qv 3) ak))))) aO)
   (aq (aG (au (Good.alias mZ T.o7) (hr.mono (by decide)) pass0 (aj (qv 1) (aj (bf op_mod (qv 2) aB) ak))))))))))),?_⟩
  have g8:n<ws.length ^ 1001:=Nat.lt_of_lt_of_le hn (Nat.le_trans (show 300≤2 ^ 1001 by decide) (Nat.pow_le_pow_left hb.two _))
  have La:n≤ws.length ^ 20:=Nat.le_trans (Nat.le_of_lt hn) (Nat.le_trans (show 300≤2 ^ 20 by decide) (Nat.pow_le_pow_left hb.two _))
  have:wh=0∨wh=1∨wh=2∨wh=3∨wh=4∨wh=5∨wh=6:=by omega
  rcases this with rfl | rfl | rfl | rfl | rfl | rfl | rfl
  ·walk_at "wp"
   rw [if_pos (by rfl)]
   refine ⟨a,ws,n,rfl,hS,hb.two,hb.top,hb.le,g8,fun kk p H' hk fp hp s=>?_⟩
   have:=eY (CT hb.two hb.le g8) hk.nd
   exact k _ _ _ (.inl ⟨rfl,kk,hk,rfl⟩) (Bf.flat fp hp (by rw [List.length_map,bh];omega) (fun x hx=>by obtain ⟨y,_,rfl⟩:=List.mem_map.mp hx;rfl)) s
  ·walk_at "wp"
   rw [if_neg (by decide),if_pos (by rfl)]
   refine ⟨a,ws,n,rfl,hS,hb.two,hb.top,hb.le,g8,fun R j p t H' hR fp ft hp ht s=>?_⟩
   obtain ⟨hRl,_,_⟩:=hR.len (CT hb.two hb.le g8)
   refine k _ _ _ (.inr (.inl ⟨rfl,R,j,hR,rfl⟩)) ⟨⟨t,[.ref p,vI j],rfl,.inl ft,ht,rfl,(by show 2≤60000;decide),fun i x c h1 h2=>?_⟩,t,rfl,ft⟩ s
   have:i=0∨i=1:=by have:=(List.getElem?_eq_some_iff.mp h1).1;simp at this;omega
   rcases this with rfl | rfl
   ·obtain rfl:=Option.some.inj h1
    obtain rfl:=Option.some.inj h2
    exact Rp.Ng (.inl fp) hp (by rw [List.length_map];omega) (fun x hx=>by obtain ⟨y,_,rfl⟩:=List.mem_map.mp hx;rfl)
   ·obtain rfl:=Option.some.inj h1
    obtain rfl:=Option.some.inj h2
    exact ⟨rfl,rfl⟩
  ·walk_at "wp"
   rw [if_neg (by decide),if_neg (by decide),if_pos (by rfl)]
   refine ⟨a,ws,rfl,hS,hb.two,hb.top,hb.le,fun l out H' fl hl ho Ut hlt hne hall s=>?_⟩
   have hh:=nA hb (fun p hp=>(ho p hp).2.2) Ut hall
   refine k _ _ _ (.inr (.inr (.inl ⟨rfl,out.map (·.2),⟨fun R hR=>?_,by rw [List.map_map];exact hh⟩,rfl⟩))) ⟨⟨l,_,rfl,.inl fl,hl,by simp,by rw [List.length_map];omega,fun i x c h1 h2=>?_⟩,l,rfl,fl⟩ s
   ·obtain ⟨p,hp,rfl⟩:=List.mem_map.mp hR
    exact (ho p hp).2.2
   ·rw [List.getElem?_map,Option.map_eq_some_iff] at h1
    obtain ⟨p,hp,rfl⟩:=h1
    have h2:((out.map (·.2)).map fun R=>XF true (R.map V.int))[i]? = some c:=h2
    rw [List.getElem?_map,List.getElem?_map,hp] at h2
    obtain rfl:=Option.some.inj h2
    obtain ⟨f1,f2,R,M,L,hR,e⟩:=ho p (List.mem_of_getElem? hp)
    refine Rp.Ng (.inl f1) f2 ?_ (fun x hx=>by obtain ⟨y,_,rfl⟩:=List.mem_map.mp hx;rfl)
    have:=eY (CT hb.two hb.le (n:=M) (Nat.lt_of_le_of_lt (hR.Xk hb) (Nat.lt_of_lt_of_le (show 450<2 ^ 1001 by decide) (Nat.pow_le_pow_left hb.two _)))) hR.R4.nd
    rw [List.length_map]
    show p.2.length≤60000
    rw [e,List.length_map,hR.len];omega
  ·walk_at "wp"
   rw [if_neg (by decide),if_neg (by decide),if_neg (by decide),if_pos (by rfl)]
   refine ⟨a,ws,n,rfl,hS,hb,La,fun p H' fp hp s=>?_⟩
   have:=hb.few
   exact k _ _ _ (.inr (.inr (.inr (.inl ⟨by omega,rfl⟩)))) (Bf.flat fp hp (by rw [List.length_map];omega) (fun x hx=>by obtain ⟨y,_,rfl⟩:=List.mem_map.mp hx;rfl)) s
  ·walk_at "wp"
   rw [if_neg (by decide),if_neg (by decide),if_neg (by decide),if_neg (by decide),if_pos (by rfl)]
   refine ⟨a,ws,n,rfl,hS,hb,by omega,fun p H' fp hp s=>?_⟩
   have:=hb.few
   exact k _ _ _ (.inr (.inr (.inr (.inl ⟨by omega,rfl⟩)))) (Bf.flat fp hp (by rw [List.length_map];omega) (fun x hx=>by obtain ⟨y,_,rfl⟩:=List.mem_map.mp hx;rfl)) s
  ·walk_at "wp"
   rw [if_neg (by decide),if_neg (by decide),if_neg (by decide),if_neg (by decide),if_neg (by decide),if_pos (by rfl)]
   refine ⟨a,ws,len,rfl,hS,hb.two,hb.top,hb.le,hl1,by omega,fun p H' fp hp s=>?_⟩
   exact k _ _ _ (.inr (.inr (.inr (.inr (.inl ⟨rfl,rfl⟩))))) (Bf.flat fp hp (by rw [List.length_map,c7];omega) (fun x hx=>by obtain ⟨y,_,rfl⟩:=List.mem_map.mp hx;rfl)) s
  ·walk_at "wp"
   rw [if_neg (by decide),if_neg (by decide),if_neg (by decide),if_neg (by decide),if_neg (by decide),if_neg (by decide)]
   rw [show ((n:Int) % 121)=((n % 121:Nat):Int) from rfl]
   refine ⟨a,ws,n % 121,rfl,hS,hb.two,hb.top,hb.le,by omega,fun p H' fp hp s=>?_⟩
   exact k _ _ _ (.inr (.inr (.inr (.inr (.inr ⟨rfl,rfl⟩))))) (Bf.flat fp hp (by rw [List.length_map,vf];omega) (fun x hx=>by obtain ⟨y,_,rfl⟩:=List.mem_map.mp hx;cases y <;> rfl)) s
theorem Ac (T:Txt mg) (F:MethAt K "House" "tellings" "House.tellings" fU ["self","name"]) (bB:ClsAt K mg "Book") (aL:ClsAt K mg "House") (cL:oW K "Book" "told") (aH:bD P w K mg base):pN P w K mg base:=by
 refine F.aZ nM.2 yg.2 yh (fun vs H Q E h=>?_) (fun f cdv A outer s H vs Q E hr h=>?_) <;> obtain ⟨h,dx,d,b,bx,wl,tl,kvs,nm,ts,rfl,hh,hd,hv,hb,htl,k⟩:=h
 ·rfl
 ·have hu:=hu_of hr
  refine ⟨_,(aq (aG (cV fL (by rfl) T.bW bH (aj (dj (K:=K) rfl (bR (K:=K) (pl:=_) rfl aL aH (hr.mono (by decide)) pass0 (qv 0) (aj (qv 1) ak))) ak)))),?_⟩
  walk_at "wp"
  refine ⟨_,_,hh,by rfl,h,dx,d,b,kvs,nm,rfl,hh,hd,hv,?_⟩
  walk_at "wp"
  refine ⟨_,_,_,hb,bB.cl,cL,_,by rfl,?_⟩
  walk_at "wp"
  exact ⟨_,bQ.of htl,fun p hp=>k p _ hp upd_same (Same.new hp)⟩
theorem Hf (T:Txt mg) (F:MethAt K "House" "names" "House.names" j7 ["self"]) (aL:ClsAt K mg "House") (bA:oW K "House" "books") :vW P w K mg base:=by
 refine F.aZ uK.2 Ed.2 Ef (fun vs H Q E h=>?_) (fun f cdv A outer s H vs Q E hr h=>?_) <;> obtain ⟨h,dx,d,kvs,rfl,hh,hd,hl,k⟩:=h
 ·rfl
 ·have hu:=hu_of hr
  refine ⟨_,(aq (aG (cV (Pn rfl) (by rfl) T.bW bH (aj (dj (K:=K) rfl (qv 0)) ak)))),?_⟩
  walk_at "wp"
  refine ⟨_,_,_,hh,aL.cl,bA,_,by rfl,?_⟩
  walk_at "wp"
  exact ⟨_,hd,fun p hp=>k p _ hp upd_same (Same.new hp)⟩
theorem Cp (T:Txt mg) (F:MethAt K "House" "sums_to" "House.sums_to" gF ["self","name","target"]) (bB:ClsAt K mg "Book") (aL:ClsAt K mg "House") (aJ:oW K "Book" "worths") (mZ:yu P w K mg base) (aH:bD P w K mg base):rF P w K mg base:=by
 refine F.aZ pC.2 zO.2 zP (fun vs H Q E h=>?_) (fun f cdv A outer s H vs Q E hr h=>?_) <;> obtain ⟨h,dx,d,b,bx,wl,tl,kvs,nm,n,len,ws,rfl,hh,hd,hv,Ad,hwl,hb,hn,hl1,hl3,k⟩:=h
 ·rfl
 ·have hu:=hu_of hr
  refine ⟨_,(aq (aG (au (Good.alias mZ T.o7) (hr.mono (by decide)) pass0 (aj (dj (K:=K) rfl (bR (K:=K) (pl:=_) rfl aL aH (hr.mono (by decide)) pass0 (qv 0) (aj (qv 1) ak))) (aj (qv 2) ak))))),?_⟩
  have g8:n<ws.length ^ 1001:=Nat.lt_of_lt_of_le hn (Nat.le_trans (show 300≤2 ^ 1001 by decide) (Nat.pow_le_pow_left hb.two _))
  have La:n≤ws.length ^ 20:=Nat.le_trans (Nat.le_of_lt hn) (Nat.le_trans (show 300≤2 ^ 20 by decide) (Nat.pow_le_pow_left hb.two _))
  have hS:bQ K H wl (ws.map vI):=bQ.of hwl
  walk_at "wp"
  refine ⟨_,_,hh,by rfl,h,dx,d,b,kvs,nm,rfl,hh,hd,hv,?_⟩
  walk_at "wp"
  refine ⟨_,_,_,Ad,bB.cl,aJ,_,by rfl,?_⟩
  walk_at "wp"
  refine ⟨wl,ws,n % 121,rfl,hS,hb.two,hb.top,hb.le,by omega,fun p H' fp hp s=>?_⟩
  exact k _ _ _ (.inr (.inr (.inr (.inr (.inr ⟨rfl,rfl⟩))))) (Bf.flat fp hp (by rw [List.length_map,vf];omega) (fun x hx=>by obtain ⟨y,_,rfl⟩:=List.mem_map.mp hx;cases y <;> rfl)) s
theorem yE (T:Txt mg) (F:MethAt K "House" "spread_of" "House.spread_of" eN ["self","name","length"]) (bB:ClsAt K mg "Book") (aL:ClsAt K mg "House") (aJ:oW K "Book" "worths") (iG:sY P w K mg base) (aH:bD P w K mg base):nZ P w K mg base:=by
 refine F.aZ lZ.2 wU.2 wV (fun vs H Q E h=>?_) (fun f cdv A outer s H vs Q E hr h=>?_) <;> obtain ⟨h,dx,d,b,bx,wl,tl,kvs,nm,n,len,ws,rfl,hh,hd,hv,Ad,hwl,hb,hn,hl1,hl3,k⟩:=h
 ·rfl
 ·have hu:=hu_of hr
  refine ⟨_,(aq (aG (au (Good.alias iG T.lW) (hr.mono (by decide)) pass0 (aj (dj (K:=K) rfl (bR (K:=K) (pl:=_) rfl aL aH (hr.mono (by decide)) pass0 (qv 0) (aj (qv 1) ak))) (aj (qv 2) ak))))),?_⟩
  have g8:n<ws.length ^ 1001:=Nat.lt_of_lt_of_le hn (Nat.le_trans (show 300≤2 ^ 1001 by decide) (Nat.pow_le_pow_left hb.two _))
  have La:n≤ws.length ^ 20:=Nat.le_trans (Nat.le_of_lt hn) (Nat.le_trans (show 300≤2 ^ 20 by decide) (Nat.pow_le_pow_left hb.two _))
  have hS:bQ K H wl (ws.map vI):=bQ.of hwl
  walk_at "wp"
  refine ⟨_,_,hh,by rfl,h,dx,d,b,kvs,nm,rfl,hh,hd,hv,?_⟩
  walk_at "wp"
  refine ⟨_,_,_,Ad,bB.cl,aJ,_,by rfl,?_⟩
  walk_at "wp"
  refine ⟨wl,ws,len,rfl,hS,hb.two,hb.top,hb.le,hl1,by omega,fun p H' fp hp s=>?_⟩
  exact k _ _ _ (.inr (.inr (.inr (.inr (.inl ⟨rfl,rfl⟩))))) (Bf.flat fp hp (by rw [List.length_map,c7];omega) (fun x hx=>by obtain ⟨y,_,rfl⟩:=List.mem_map.mp hx;rfl)) s
theorem oA (T:Txt mg) (F:MethAt K "House" "counts_one_by_one" "House.counts_one_by_one" cC ["self","name","limit"]) (bB:ClsAt K mg "Book") (aL:ClsAt K mg "House") (aJ:oW K "Book" "worths") (cA:fC P w K mg base) (aH:bD P w K mg base):fG P w K mg base:=by
 refine F.aZ eO.2 mO.2 mQ (fun vs H Q E h=>?_) (fun f cdv A outer s H vs Q E hr h=>?_) <;> obtain ⟨h,dx,d,b,bx,wl,tl,kvs,nm,n,len,ws,rfl,hh,hd,hv,Ad,hwl,hb,hn,hl1,hl3,k⟩:=h
 ·rfl
 ·have hu:=hu_of hr
  refine ⟨_,(aq (aG (au (Good.alias cA T.eE) (hr.mono (by decide)) pass0 (aj (dj (K:=K) rfl (bR (K:=K) (pl:=_) rfl aL aH (hr.mono (by decide)) pass0 (qv 0) (aj (qv 1) ak))) (aj (qv 2) ak))))),?_⟩
  have g8:n<ws.length ^ 1001:=Nat.lt_of_lt_of_le hn (Nat.le_trans (show 300≤2 ^ 1001 by decide) (Nat.pow_le_pow_left hb.two _))
  have La:n≤ws.length ^ 20:=Nat.le_trans (Nat.le_of_lt hn) (Nat.le_trans (show 300≤2 ^ 20 by decide) (Nat.pow_le_pow_left hb.two _))
  have hS:bQ K H wl (ws.map vI):=bQ.of hwl
  walk_at "wp"
  refine ⟨_,_,hh,by rfl,h,dx,d,b,kvs,nm,rfl,hh,hd,hv,?_⟩
  walk_at "wp"
  refine ⟨_,_,_,Ad,bB.cl,aJ,_,by rfl,?_⟩
  walk_at "wp"
  refine ⟨wl,ws,n,rfl,hS,hb,by omega,fun p H' fp hp s=>?_⟩
  have:=hb.few
  exact k _ _ _ (.inr (.inr (.inr (.inl ⟨by omega,rfl⟩)))) (Bf.flat fp hp (by rw [List.length_map];omega) (fun x hx=>by obtain ⟨y,_,rfl⟩:=List.mem_map.mp hx;rfl)) s
theorem uX (T:Txt mg) (F:MethAt K "House" "counts_below" "House.counts_below" dh ["self","name","limit"]) (bB:ClsAt K mg "Book") (aL:ClsAt K mg "House") (aJ:oW K "Book" "worths") (dM:kJ P w K mg base) (aH:bD P w K mg base):jz P w K mg base:=by
 refine F.aZ jd.2 sW.2 sX (fun vs H Q E h=>?_) (fun f cdv A outer s H vs Q E hr h=>?_) <;> obtain ⟨h,dx,d,b,bx,wl,tl,kvs,nm,n,len,ws,rfl,hh,hd,hv,Ad,hwl,hb,hn,hl1,hl3,k⟩:=h
 ·rfl
 ·have hu:=hu_of hr
  refine ⟨_,(aq (aG (au (Good.alias dM T.iR) (hr.mono (by decide)) pass0 (aj (dj (K:=K) rfl (bR (K:=K) (pl:=_) rfl aL aH (hr.mono (by decide)) pass0 (qv 0) (aj (qv 1) ak))) (aj (qv 2) ak))))),?_⟩
  have g8:n<ws.length ^ 1001:=Nat.lt_of_lt_of_le hn (Nat.le_trans (show 300≤2 ^ 1001 by decide) (Nat.pow_le_pow_left hb.two _))
  have La:n≤ws.length ^ 20:=Nat.le_trans (Nat.le_of_lt hn) (Nat.le_trans (show 300≤2 ^ 20 by decide) (Nat.pow_le_pow_left hb.two _))
  have hS:bQ K H wl (ws.map vI):=bQ.of hwl
  walk_at "wp"
  refine ⟨_,_,hh,by rfl,h,dx,d,b,kvs,nm,rfl,hh,hd,hv,?_⟩
  walk_at "wp"
  refine ⟨_,_,_,Ad,bB.cl,aJ,_,by rfl,?_⟩
  walk_at "wp"
  refine ⟨wl,ws,n,rfl,hS,hb,La,fun p H' fp hp s=>?_⟩
  have:=hb.few
  exact k _ _ _ (.inr (.inr (.inr (.inl ⟨by omega,rfl⟩)))) (Bf.flat fp hp (by rw [List.length_map];omega) (fun x hx=>by obtain ⟨y,_,rfl⟩:=List.mem_map.mp hx;rfl)) s
theorem Ae (T:Txt mg) (F:MethAt K "House" "rings_of" "House.rings_of" fV ["self","name"]) (bB:ClsAt K mg "Book") (aL:ClsAt K mg "House") (aJ:oW K "Book" "worths") (bU:iD P w K mg base) (aH:bD P w K mg base):pO P w K mg base:=by
 refine F.aZ nP.2 yp.2 yq (fun vs H Q E h=>?_) (fun f cdv A outer s H vs Q E hr h=>?_) <;> obtain ⟨h,dx,d,b,bx,wl,tl,kvs,nm,n,len,ws,rfl,hh,hd,hv,Ad,hwl,hb,hn,hl1,hl3,k⟩:=h
 ·rfl
 ·have hu:=hu_of hr
  refine ⟨_,(aq (aG (au (Good.alias bU T.dg) (hr.mono (by decide)) pass0 (aj (dj (K:=K) rfl (bR (K:=K) (pl:=_) rfl aL aH (hr.mono (by decide)) pass0 (qv 0) (aj (qv 1) ak))) ak)))),?_⟩
  have g8:n<ws.length ^ 1001:=Nat.lt_of_lt_of_le hn (Nat.le_trans (show 300≤2 ^ 1001 by decide) (Nat.pow_le_pow_left hb.two _))
  have La:n≤ws.length ^ 20:=Nat.le_trans (Nat.le_of_lt hn) (Nat.le_trans (show 300≤2 ^ 20 by decide) (Nat.pow_le_pow_left hb.two _))
  have hS:bQ K H wl (ws.map vI):=bQ.of hwl
  walk_at "wp"
  refine ⟨_,_,hh,by rfl,h,dx,d,b,kvs,nm,rfl,hh,hd,hv,?_⟩
  walk_at "wp"
  refine ⟨_,_,_,Ad,bB.cl,aJ,_,by rfl,?_⟩
  walk_at "wp"
  refine ⟨wl,ws,rfl,hS,hb.two,hb.top,hb.le,fun l out H' fl hl ho Ut hlt hne hall s=>?_⟩
  have hh:=nA hb (fun p hp=>(ho p hp).2.2) Ut hall
  refine k _ _ _ (.inr (.inr (.inl ⟨rfl,out.map (·.2),⟨fun R hR=>?_,by rw [List.map_map];exact hh⟩,rfl⟩))) ⟨⟨l,_,rfl,.inl fl,hl,by simp,by rw [List.length_map];omega,fun i x c h1 h2=>?_⟩,l,rfl,fl⟩ s
  ·obtain ⟨p,hp,rfl⟩:=List.mem_map.mp hR
   exact (ho p hp).2.2
  ·rw [List.getElem?_map,Option.map_eq_some_iff] at h1
   obtain ⟨p,hp,rfl⟩:=h1
   have h2:((out.map (·.2)).map fun R=>XF true (R.map V.int))[i]? = some c:=h2
   rw [List.getElem?_map,List.getElem?_map,hp] at h2
   obtain rfl:=Option.some.inj h2
   obtain ⟨f1,f2,R,M,L,hR,e⟩:=ho p (List.mem_of_getElem? hp)
   refine Rp.Ng (.inl f1) f2 ?_ (fun x hx=>by obtain ⟨y,_,rfl⟩:=List.mem_map.mp hx;rfl)
   have:=eY (CT hb.two hb.le (n:=M) (Nat.lt_of_le_of_lt (hR.Xk hb) (Nat.lt_of_lt_of_le (show 450<2 ^ 1001 by decide) (Nat.pow_le_pow_left hb.two _)))) hR.R4.nd
   rw [List.length_map]
   show p.2.length≤60000
   rw [e,List.length_map,hR.len];omega
theorem Cq (T:Txt mg) (F:MethAt K "House" "ring_of" "House.ring_of" gG ["self","name","number"]) (bB:ClsAt K mg "Book") (aL:ClsAt K mg "House") (aJ:oW K "Book" "worths") (cI:jE P w K mg base) (aH:bD P w K mg base):rG P w K mg base:=by
 refine F.aZ pD.2 zR.2 zT (fun vs H Q E h=>?_) (fun f cdv A outer s H vs Q E hr h=>?_) <;> obtain ⟨h,dx,d,b,bx,wl,tl,kvs,nm,n,len,ws,rfl,hh,hd,hv,Ad,hwl,hb,hn,hl1,hl3,k⟩:=h
 ·rfl
 ·have hu:=hu_of hr
  refine ⟨_,(aq (aG (au (Good.alias cI T.dH) (hr.mono (by decide)) pass0 (aj (dj (K:=K) rfl (bR (K:=K) (pl:=_) rfl aL aH (hr.mono (by decide)) pass0 (qv 0) (aj (qv 1) ak))) (aj (qv 2) ak))))),?_⟩
  have g8:n<ws.length ^ 1001:=Nat.lt_of_lt_of_le hn (Nat.le_trans (show 300≤2 ^ 1001 by decide) (Nat.pow_le_pow_left hb.two _))
  have La:n≤ws.length ^ 20:=Nat.le_trans (Nat.le_of_lt hn) (Nat.le_trans (show 300≤2 ^ 20 by decide) (Nat.pow_le_pow_left hb.two _))
  have hS:bQ K H wl (ws.map vI):=bQ.of hwl
  walk_at "wp"
  refine ⟨_,_,hh,by rfl,h,dx,d,b,kvs,nm,rfl,hh,hd,hv,?_⟩
  walk_at "wp"
  refine ⟨_,_,_,Ad,bB.cl,aJ,_,by rfl,?_⟩
  walk_at "wp"
  refine ⟨wl,ws,n,rfl,hS,hb.two,hb.top,hb.le,g8,fun R j p t H' hR fp ft hp ht s=>?_⟩
  obtain ⟨hRl,_,_⟩:=hR.len (CT hb.two hb.le g8)
  refine k _ _ _ (.inr (.inl ⟨rfl,R,j,hR,rfl⟩)) ⟨⟨t,[.ref p,vI j],rfl,.inl ft,ht,rfl,(by show 2≤60000;decide),fun i x c h1 h2=>?_⟩,t,rfl,ft⟩ s
  have:i=0∨i=1:=by have:=(List.getElem?_eq_some_iff.mp h1).1;simp at this;omega
  rcases this with rfl | rfl
  ·obtain rfl:=Option.some.inj h1
   obtain rfl:=Option.some.inj h2
   exact Rp.Ng (.inl fp) hp (by rw [List.length_map];omega) (fun x hx=>by obtain ⟨y,_,rfl⟩:=List.mem_map.mp hx;rfl)
  ·obtain rfl:=Option.some.inj h1
   obtain rfl:=Option.some.inj h2
   exact ⟨rfl,rfl⟩
theorem Cr (T:Txt mg) (F:MethAt K "House" "walk_of" "House.walk_of" gH ["self","name","number"]) (bB:ClsAt K mg "Book") (aL:ClsAt K mg "House") (aJ:oW K "Book" "worths") (fX:sZ P w K mg base) (aH:bD P w K mg base):rH P w K mg base:=by
 refine F.aZ pF.2 zU.2 zV (fun vs H Q E h=>?_) (fun f cdv A outer s H vs Q E hr h=>?_) <;> obtain ⟨h,dx,d,b,bx,wl,tl,kvs,nm,n,len,ws,rfl,hh,hd,hv,Ad,hwl,hb,hn,hl1,hl3,k⟩:=h
 ·rfl
 ·have hu:=hu_of hr
  refine ⟨_,(aq (aG (au (Good.alias fX T.jD) (hr.mono (by decide)) pass0 (aj (dj (K:=K) rfl (bR (K:=K) (pl:=_) rfl aL aH (hr.mono (by decide)) pass0 (qv 0) (aj (qv 1) ak))) (aj (qv 2) ak))))),?_⟩
  have g8:n<ws.length ^ 1001:=Nat.lt_of_lt_of_le hn (Nat.le_trans (show 300≤2 ^ 1001 by decide) (Nat.pow_le_pow_left hb.two _))
  have La:n≤ws.length ^ 20:=Nat.le_trans (Nat.le_of_lt hn) (Nat.le_trans (show 300≤2 ^ 20 by decide) (Nat.pow_le_pow_left hb.two _))
  have hS:bQ K H wl (ws.map vI):=bQ.of hwl
  walk_at "wp"
  refine ⟨_,_,hh,by rfl,h,dx,d,b,kvs,nm,rfl,hh,hd,hv,?_⟩
  walk_at "wp"
  refine ⟨_,_,_,Ad,bB.cl,aJ,_,by rfl,?_⟩
  walk_at "wp"
  refine ⟨wl,ws,n,rfl,hS,hb.two,hb.top,hb.le,g8,fun kk p H' hk fp hp s=>?_⟩
  have:=eY (CT hb.two hb.le g8) hk.nd
  exact k _ _ _ (.inl ⟨rfl,kk,hk,rfl⟩) (Bf.flat fp hp (by rw [List.length_map,bh];omega) (fun x hx=>by obtain ⟨y,_,rfl⟩:=List.mem_map.mp hx;rfl)) s
theorem Cu (T:Txt mg) (F:aN K mg "_law_by_house" gJ ["_law_house","_law_which","_law_number","_law_length"]) (aL:ClsAt K mg "House") (jG:pN P w K mg base) (bM:gZ P w K mg base) (qb:vW P w K mg base) (lg:rF P w K mg base) (jh:nZ P w K mg base) (cY:fG P w K mg base) (fH:jz P w K mg base) (jH:pO P w K mg base) (lq:rG P w K mg base) (lu:rH P w K mg base):rJ P w K mg base:=by
 refine F.aZ pG.2 zW.2 zX (fun vs H Q E h=>?_) (fun f cdv A outer s H vs Q E hr h=>?_) <;> obtain ⟨h,dx,d,b,bx,wl,tl,kvs,wh,n,len,ws,ts,mm,rfl,hw7,afH,hh,hd,hv,hkl,hks,Ad,hwl,hb,htl,hts,hml,htm,hn,hl1,hl3,k⟩:=h
 ·rfl
 ·have hu:=hu_of hr
  refine ⟨_,(ao (aV (aK op_eq (qv 1) aB (nomark _)) (aq (aG (bR (K:=K) (pl:=_) rfl aL lu (hr.mono (by decide)) pass0 (qv 0) (aj gR (aj (qv 2) ak))))) aO)
   (ao (aV (aK op_eq (qv 1) aB (nomark _)) (aq (aG (bR (K:=K) (pl:=_) rfl aL lq (hr.mono (by decide)) pass0 (qv 0) (aj gR (aj (qv 2) ak))))) aO)
   (ao (aV (aK op_eq (qv 1) aB (nomark _)) (aq (aG (bR (K:=K) (pl:=_) rfl aL jH (hr.mono (by decide)) pass0 (qv 0) (aj gR ak)))) aO)
   (ao (aV (aK op_eq (qv 1) aB (nomark _)) (aq (aG (bR (K:=K) (pl:=_) rfl aL fH (hr.mono (by decide)) pass0 (qv 0) (aj gR (aj (qv 2) ak))))) aO)
   (ao (aV (aK op_eq (qv 1) aB (nomark _)) (aq (aG (bR (K:=K) (pl:=_) rfl aL cY (hr.mono (by decide)) pass0 (qv 0) (aj gR (aj (qv 2) ak))))) aO)
   (ao (aV (aK op_eq (qv 1) aB (nomark _)) (aq (aG (bR (K:=K) (pl:=_) rfl aL jh (hr.mono (by decide)) pass0 (qv 0) (aj gR (aj (qv 3) ak))))) aO)
   (ao (aV (aK op_eq (qv 1) aB (nomark _)) (aq (aG (bR (K:=K) (pl:=_) rfl aL lg (hr.mono (by decide)) pass0 (qv 0) (aj gR (aj (bf op_mod (qv 2) aB) ak))))) aO)
   (ao (aV (aK op_eq (qv 1) aB (nomark _)) (aq (aG (Xc (K:=K) (pl:=_) rfl aL qb (hr.mono (by decide)) pass0 (qv 0)))) aO)
   (ao (aV (aK op_eq (qv 1) aB (nomark _)) (aq (aG (bR (K:=K) (pl:=_) rfl aL bM (hr.mono (by decide)) pass0 (qv 0) (aj gR ak)))) aO)
   (aq (aG (bR (K:=K) (pl:=_) rfl aL jG (hr.mono (by decide)) pass0 (qv 0) (aj gR ak))))))))))))),?_⟩
  walk_at "wp"
  have:wh=7∨wh=8∨wh=9∨wh=10∨wh=11∨wh=12∨wh=13∨wh=14∨wh=15∨wh=16:=by omega
  rcases this with rfl | rfl | rfl | rfl | rfl | rfl | rfl | rfl | rfl | rfl
  ·rw [if_pos (by rfl)]
   exact ⟨_,_,hh,by rfl,h,dx,d,b,bx,wl,tl,kvs,"b",n,len,ws,rfl,hh,hd,hv,Ad,hwl,hb,hn,hl1,hl3,fun v c H' hi ha s=>k v c H' (.inl ⟨by decide,hi⟩) ha s⟩
  ·rw [if_neg (by decide),if_pos (by rfl)]
   exact ⟨_,_,hh,by rfl,h,dx,d,b,bx,wl,tl,kvs,"b",n,len,ws,rfl,hh,hd,hv,Ad,hwl,hb,hn,hl1,hl3,fun v c H' hi ha s=>k v c H' (.inl ⟨by decide,hi⟩) ha s⟩
  ·rw [if_neg (by decide),if_neg (by decide),if_pos (by rfl)]
   exact ⟨_,_,hh,by rfl,h,dx,d,b,bx,wl,tl,kvs,"b",n,len,ws,rfl,hh,hd,hv,Ad,hwl,hb,hn,hl1,hl3,fun v c H' hi ha s=>k v c H' (.inl ⟨by decide,hi⟩) ha s⟩
  ·rw [if_neg (by decide),if_neg (by decide),if_neg (by decide),if_pos (by rfl)]
   exact ⟨_,_,hh,by rfl,h,dx,d,b,bx,wl,tl,kvs,"b",n,len,ws,rfl,hh,hd,hv,Ad,hwl,hb,hn,hl1,hl3,fun v c H' hi ha s=>k v c H' (.inl ⟨by decide,hi⟩) ha s⟩
  ·rw [if_neg (by decide),if_neg (by decide),if_neg (by decide),if_neg (by decide),if_pos (by rfl)]
   exact ⟨_,_,hh,by rfl,h,dx,d,b,bx,wl,tl,kvs,"b",n,len,ws,rfl,hh,hd,hv,Ad,hwl,hb,hn,hl1,hl3,fun v c H' hi ha s=>k v c H' (.inl ⟨by decide,hi⟩) ha s⟩
  ·rw [if_neg (by decide),if_neg (by decide),if_neg (by decide),if_neg (by decide),if_neg (by decide),if_pos (by rfl)]
   exact ⟨_,_,hh,by rfl,h,dx,d,b,bx,wl,tl,kvs,"b",n,len,ws,rfl,hh,hd,hv,Ad,hwl,hb,hn,hl1,hl3,fun v c H' hi ha s=>k v c H' (.inl ⟨by decide,hi⟩) ha s⟩
  ·rw [if_neg (by decide),if_neg (by decide),if_neg (by decide),if_neg (by decide),if_neg (by decide),if_neg (by decide),if_pos (by rfl)]
   rw [show ((n:Int) % 121)=((n % 121:Nat):Int) from rfl]
   exact ⟨_,_,hh,by rfl,h,dx,d,b,bx,wl,tl,kvs,"b",n,len,ws,rfl,hh,hd,hv,Ad,hwl,hb,hn,hl1,hl3,fun v c H' hi ha s=>k v c H' (.inl ⟨by decide,hi⟩) ha s⟩
  ·rw [if_neg (by decide),if_neg (by decide),if_neg (by decide),if_neg (by decide),if_neg (by decide),if_neg (by decide),if_neg (by decide),if_pos (by rfl)]
   exact ⟨_,_,hh,by rfl,h,dx,d,kvs,rfl,hh,hd,hkl,fun p H' fp hp s=>k _ _ _ (.inr (.inl ⟨rfl,rfl⟩)) (Bf.flat fp hp (by rw [List.length_map];omega) hks) s⟩
  ·rw [if_neg (by decide),if_neg (by decide),if_neg (by decide),if_neg (by decide),if_neg (by decide),if_neg (by decide),if_neg (by decide),if_neg (by decide),if_pos (by rfl)]
   exact ⟨_,_,hh,by rfl,h,dx,d,b,bx,wl,tl,kvs,"b",ws,rfl,hh,hd,hv,Ad,hwl,fun p H' fp hp s=>k _ _ _ (.inr (.inr (.inl ⟨rfl,rfl⟩))) (Bf.flat fp hp (by rw [List.length_map];have:=hb.top;omega) (fun x hx=>by obtain ⟨y,_,rfl⟩:=List.mem_map.mp hx;rfl)) s⟩
  ·rw [if_neg (by decide),if_neg (by decide),if_neg (by decide),if_neg (by decide),if_neg (by decide),if_neg (by decide),if_neg (by decide),if_neg (by decide),if_neg (by decide)]
   refine ⟨_,_,hh,by rfl,h,dx,d,b,bx,wl,tl,kvs,"b",ts,rfl,hh,hd,hv,Ad,htl,fun p H' fp hp s=>k _ _ _ (.inr (.inr (.inr ⟨rfl,rfl⟩))) ⟨⟨p,_,rfl,.inl fp,hp,by rw [List.length_map,List.length_map,hts],by rw [List.length_map];omega,fun i x c h1 h2=>?_⟩,p,rfl,fp⟩ s⟩
   rw [List.getElem?_map,Option.map_eq_some_iff] at h1
   obtain ⟨r,hr,rfl⟩:=h1
   have h2:(mm.map fun m=>XF false (m.map vI))[i]? = some c:=h2
   rw [List.getElem?_map,Option.map_eq_some_iff] at h2
   obtain ⟨m,hm,rfl⟩:=h2
   obtain ⟨q1,q2⟩:=htm i r m hr hm
   exact Rp.Ng (.inr ⟨_,q1⟩) (s _ _ q1) (by rw [List.length_map];omega) (fun x hx=>by obtain ⟨y,_,rfl⟩:=List.mem_map.mp hx;rfl)
theorem Qw (T:Txt mg) (F:aN K mg "_law_at" wM ["_law_script","_law_k"]) :yw P w K mg base:=by
 refine F.aZ Dh.2 Oj.2 Ol (fun vs H Q E h=>?_) (fun f cdv A outer s H vs Q E hr h=>?_) <;> obtain ⟨a,ns,i,rfl,hS,k⟩:=h
 ·rfl
 ·have hu:=hu_of hr
  refine ⟨_,(ao (aV (aK u0 (qv 1) (aA aM (by rfl) T.cF PySem.boot_len (aj (qv 0) ak)) (nomark _)) (aq (aG (bY cD (qv 0) (qv 1) (fun _ _=>rfl)))) aO)
   (aq (aG aB))),?_⟩
  walk_at "wp"
  refine ⟨_,hS,ite2 (fun c=>⟨_,hS,.int (cell ns i),atI_nat ?_,k⟩) (fun c=>?_)⟩
  ·rw [List.length_map] at c
   unfold cell
   rw [List.getElem?_map,List.getD_eq_getElem?_getD,List.getElem?_eq_getElem (by omega)]
   rfl
  ·rw [List.length_map] at c
   unfold cell at k
   rw [List.getD_eq_getElem?_getD,List.getElem?_eq_none (by omega)] at k
   exact k
theorem Lb (T:Txt mg) (F:aN K mg "_law_same" pH ["_law_handed","_law_row_here"]) (aU:dY P w K mg base):Aa P w K mg base:=by
 refine F.aZ xq.2 Ib.2 xr (fun vs H Q E h=>?_) (fun f cdv A outer s H vs Q E hr h=>?_) <;> obtain ⟨a,c,xs,rfl,h1,h2,h3,k⟩:=h
 ·rfl
 ·have hu:=hu_of hr
  refine ⟨_,(ao (aV (aK op_ne (aA aM (by rfl) T.cF PySem.boot_len (aj (qv 0) ak)) (aA aM (by rfl) T.cF PySem.boot_len (aj (qv 1) ak)) (nomark _)) (aq (aG dw)) aO)
   (ao (bL PassesOwn.never rfl (bK rfl T.cJ (aj (aA aM (by rfl) T.cF PySem.boot_len (aj (qv 1) ak)) ak)) (aW (i:=2) xr.nd rfl (Or.inl rfl)) (aq (aV (dX (gU (bC (au aU (hr.mono (by decide)) pass0 (aj (bY cD (qv 0) (qv 2) (fun _ _=>rfl)) ak)))) (cM (aK op_ne (bY cD (qv 0) (qv 2) (fun _ _=>rfl)) (bY cD (qv 1) (qv 2) (fun _ _=>rfl)) (nomark _)))).qt (aq (aG dw)) aO)))
   (aq (aG dw)))),?_⟩
  walk_at "wp"
  refine ⟨_,h1,_,h2,?_⟩
  rw [if_pos rfl]
  refine ⟨_,h2,?_⟩
  rw [List.length_map]
  refine ⟨by omega,by omega,mj.go (fun i σ H2=>∃ v,σ=[some (.ref a),some (.ref c),v]∧H2=H) ⟨none,rfl,rfl⟩ ?_ ?_⟩
  ·rintro i σ H2 N hi ⟨v,rfl,rfl⟩ hN
   have hx:xs[i]? = some (xs[i]'(by omega)):=List.getElem?_eq_getElem (by omega)
   have hx':atI (xs.map V.int) (i:Int)=some (.int (xs[i]'(by omega))):=atI_nat (by rw [List.getElem?_map,hx];rfl)
   walk_at "wp"
   refine ⟨_,h1,_,hx',_,rfl,.inl ⟨_,rfl,?_⟩⟩
   walk_at "wp"
   refine ⟨_,h1,_,hx',_,h2,_,hx',?_⟩
   walk_at "wp"
   exact hN _ _ ⟨_,rfl,rfl⟩
  ·rintro σ H2 ⟨v,rfl,rfl⟩
   walk_at "wp"
   exact k
theorem Cv (T:Txt mg) (F:aN K mg "check_figures" gK ["row","base"]) :rK P w K mg base:=by
 refine F.aZ pI.2 zY.2 pJ (fun vs H Q E h=>?_) (fun f cdv A outer s H vs Q E hr h=>?_) <;> obtain ⟨a,rs,b,rfl,hS,h1,k⟩:=h
 ·rfl
 ·have hu:=hu_of hr
  refine ⟨_,(aq (bL PassesOwn.never rfl (iw (qv 0)) (aW (i:=2) pJ.nd rfl (Or.inl rfl)) (aq (aV (dX (aK u0 (qv 2) aB (nomark _)) (cM (aK op_ge (qv 2) (qv 1) (nomark _)))).qt (aq (eX)) aO)))),?_⟩
  walk_at "wp"
  refine pU.go hS (fun i σ H2=>∃ v,σ=[some (.ref a),some (vI b),v]∧H2=H) ⟨none,rfl,rfl⟩ (fun i σ H2 _ ⟨_,_,e⟩=>e ▸ Same.refl _) ?_ ?_
  ·rintro i x σ H2 N hx ⟨v,rfl,rfl⟩ hN
   rw [List.getElem?_map,Option.map_eq_some_iff] at hx
   obtain ⟨d,hd,rfl⟩:=hx
   have:=h1 d (List.mem_of_getElem? hd)
   walk_at "wp"
   rw [if_neg (by omega),if_neg (by omega)]
   exact hN _ _ ⟨_,rfl,rfl⟩
  ·rintro σ H2 ⟨v,rfl,rfl⟩
   exact k
theorem Ip (T:Txt mg) (F:MethAt K "House" "tell" "House.tell" mR ["self","name","figure","worth"]) (bB:ClsAt K mg "Book") (aL:ClsAt K mg "House") (cL:oW K "Book" "told") (aJ:oW K "Book" "worths") (dZ:nT P w K mg base) (lA:rK P w K mg base) (aH:bD P w K mg base):xK P w K mg base:=by
 refine F.aZ vK.2 GD.2 nQ (fun vs H Q E h=>?_) (fun f cdv A outer s H vs Q E hr h=>?_) <;> obtain ⟨h,dx,d,b,bx,wl,tl,kvs,nm,ws,ts,f,w,rfl,hh,hd,hv,hb,hwl,htl,hne,hf,Ow,hw,hts,k⟩:=h
 ·rfl
 ·have hu:=hu_of hr
  refine ⟨_,(ao (aQ (i:=4) nQ.nd rfl (Or.inl rfl) (bR (K:=K) (pl:=_) rfl aL aH (hr.mono (by decide)) pass0 (qv 0) (aj (qv 1) ak)))
   (ao (aY (au lA (hr.mono (by decide)) pass0 (aj (eV (aj (qv 2) ak)) (aj (aA aM (by rfl) T.cF PySem.boot_len (aj (dj (K:=K) rfl (qv 4)) ak)) ak))))
   (ao (aY (au dZ (hr.mono (by decide)) pass0 (aj (qv 3) ak)))
   (ao (aQ (i:=5) nQ.nd rfl (Or.inl rfl) (bY cD (dj (K:=K) rfl (qv 4)) (qv 2) (fun _ _=>rfl)))
   (ao (Fj (qv 3) (Fl (dj (K:=K) rfl (qv 4)) (qv 2) set_list))
   (ao (aY (iJ (K:=K) rfl PySem.F.plainAttrs_list PySem.F.slot_list_append PySem.F.type_list_append bN (dj (K:=K) rfl (qv 4)) (aj (rY (aj (qv 2) (aj (qv 5) (aj (qv 3) ak)))) ak)))
   (ao (aV (aK oX (aA aM (by rfl) T.cF PySem.boot_len (aj (dj (K:=K) rfl (qv 4)) ak)) (qN T.N6) (nomark _)) (aq (aY (iJ (K:=K) rfl PySem.F.plainAttrs_list PySem.F.slot_list_pop PySem.F.type_list_pop VB (dj (K:=K) rfl (qv 4)) (aj aB ak)))) aO)
   (aq (aG (qv 5)))))))))),?_⟩
  walk_at "wp"
  refine ⟨_,_,hh,by rfl,h,dx,d,b,kvs,nm,rfl,hh,hd,hv,?_⟩
  walk_at "wp"
  refine ⟨by decide,fun p hp=>?_⟩
  have h1:Same H (upd H p (.lst [vI f])):=Same.new hp
  have hp1:upd H p (.lst [vI f]) p=some (.lst ([f].map vI)):=upd_same
  generalize upd H p (.lst [vI f])=H1 at h1 hp1
  have hb1:=h1 _ _ hb
  have abZ:=h1 _ _ hwl
  have aeE:=h1 _ _ htl
  refine ⟨_,_,_,hb1,bB.cl,aJ,_,by rfl,?_⟩
  walk_at "wp"
  refine ⟨_,bQ.of abZ,?_⟩
  rw [List.length_map]
  refine ⟨p,[f],ws.length,rfl,bQ.of hp1,fun x hx=>by rw [List.mem_singleton.mp hx];exact hf,?_⟩
  refine ⟨w,rfl,hw,?_⟩
  refine ⟨_,_,_,hb1,bB.cl,aJ,_,by rfl,?_⟩
  walk_at "wp"
  refine ⟨_,bQ.of abZ,_,Fp hf,?_⟩
  refine ⟨_,_,_,hb1,bB.cl,aJ,_,by rfl,?_⟩
  walk_at "wp"
  refine ⟨_,abZ,f,oZ (by rw [List.length_map];exact hf),?_⟩
  have hbw:b≠wl:=fun e=>by rw [e,hwl] at hb;cases hb
  have hbt:b≠tl:=fun e=>by rw [e,htl] at hb;cases hb
  have h2:∀ b o,b≠wl→H1 b=some o→upd H1 wl (.lst ((ws.map vI).set f (vI w))) b=some o:=fun b o hn e=>by rw [upd_ne hn];exact e
  have Qx:upd H1 wl (.lst ((ws.map vI).set f (vI w))) wl=some (.lst ((ws.set f w).map vI)):=by rw [upd_same,←List.map_set]
  generalize upd H1 wl (.lst ((ws.map vI).set f (vI w)))=H2 at h2 Qx
  have hb2:=h2 _ _ hbw hb1
  have Qy:=h2 _ _ (Ne.symm hne) aeE
  refine ⟨_,_,_,hb2,bB.cl,cL,_,by rfl,?_⟩
  walk_at "wp"
  refine ⟨⟨_,SqL.of Qy⟩,by decide,fun r hr=>⟨_,Same.new hr _ _ Qy,by rw [List.length_map];exact aX (by omega),?_⟩⟩
  have hrw:wl≠r:=ne_of_none Qx hr
  have hrt:r≠tl:=fun e=>by rw [e,Qy] at hr;cases hr
  have hrH:H r=none:=by
   cases e:H r with
   | none=>rfl
   | some o=>rw [h2 _ _ (Ne.symm hrw) (h1 _ _ e)] at hr;cases hr
  have h3:∀ c o,c≠wl→c≠tl→H c=some o→upd (upd H2 r (.tup [vI f,vI (wt ws f),vI w])) tl (.lst (ts.map V.ref++[.ref r])) c=some o:=fun c o n1 n2 e=>by
   rw [upd_ne n2,upd_ne (ne_of_none e hrH)];exact h2 _ _ n1 (h1 _ _ e)
  have hr3:upd (upd H2 r (.tup [vI f,vI (wt ws f),vI w])) tl (.lst (ts.map V.ref++[.ref r])) r=some (.tup [vI f,vI (wt ws f),vI w]):=by rw [upd_ne hrt,upd_same]
  have hw3:upd (upd H2 r (.tup [vI f,vI (wt ws f),vI w])) tl (.lst (ts.map V.ref++[.ref r])) wl=some (.lst ((ws.set f w).map vI)):=by rw [upd_ne hne,upd_ne hrw];exact Qx
  have ht3:upd (upd H2 r (.tup [vI f,vI (wt ws f),vI w])) tl (.lst (ts.map V.ref++[.ref r])) tl=some (.lst ((ts++[r]).map V.ref)):=by rw [upd_same,List.map_append];rfl
  generalize upd (upd H2 r (.tup [vI f,vI (wt ws f),vI w])) tl (.lst (ts.map V.ref++[.ref r]))=H3 at h3 hr3 hw3 ht3
  have hb3:=h3 _ _ hbw hbt hb
  refine ⟨_,_,_,hb3,bB.cl,cL,_,by rfl,?_⟩
  walk_at "wp"
  refine ⟨_,bQ.of ht3,?_⟩
  rw [List.length_map,List.length_append,List.length_singleton]
  walk_at "wp"
  refine ite2 (fun c=>?_) (fun c=>?_)
  ·have adt:ts.length=200:=by omega
   refine ⟨_,_,_,hb3,bB.cl,cL,_,by rfl,?_⟩
   walk_at "wp"
   obtain ⟨y,hy⟩:∃ y,(ts++[r])[0]? = some y:=⟨_,List.getElem?_eq_getElem (by rw [List.length_append,List.length_singleton];omega)⟩
   refine ⟨⟨_,SqL.of ht3⟩,_,ht3,0,by rw [List.length_map,List.length_append,adt];rfl,.ref y,by rw [List.getElem?_map,hy];rfl,k r _ hrH ?_ ?_ ?_ fun c o n1 n2 e=>?_⟩
   ·rw [upd_ne hrt];exact hr3
   ·rw [upd_ne hne];exact hw3
   ·rw [upd_same,adt,List.eraseIdx_zero,List.drop_one,List.map_tail]
   ·rw [upd_ne n2];exact h3 c o n1 n2 e
  ·refine k r H3 hrH hr3 hw3 ?_ h3
   rw [ht3,show ts.length - 199=0 by omega,List.drop_zero]
theorem Cw (T:Txt mg) (F:xW K "Book" "Book.__init__" gM ["self","worths"]) (bB:ClsAt K mg "Book") (cL:oW K "Book" "told") (aJ:oW K "Book" "worths") :rM P w K mg base:=by
 refine F.aZ pK.2 zZ.2 z6 (fun vs H Q E h=>?_) (fun f cdv A outer s H vs Q E hr h=>?_) <;> obtain ⟨x,dx,a,ws,rfl,hx,hS,hl,k⟩:=h
 ·rfl
 ·have hu:=hu_of hr
  refine ⟨_,(ao (Pj (K:=K) rfl (qv 0) (cV fL (by rfl) T.bW bH (aj (qv 1) ak)))
   (aq (Pj (K:=K) rfl (qv 0) (eV ak)))),?_⟩
  walk_at "wp"
  refine ⟨_,hS,fun l hlf=>⟨_,_,_,Same.new hlf _ _ hx,bB.cl,aJ,by decide,by decide,fun p hp=>?_⟩⟩
  have hxl:x≠l:=ne_of_none hx hlf
  have hpx:p≠x:=fun e=>by rw [e,upd_same] at hp;cases hp
  rw [upd_ne hpx] at hp
  have hpl:l≠p:=ne_of_none upd_same hp
  have hpf:H p=none:=(Same.new hlf).free hp
  refine ⟨_,_,_,(upd_ne (Ne.symm hpx)).trans upd_same,bB.cl,cL,(show 1<1000 by decide),k l p _ hlf hpf hpl ?_ ?_ ?_ ?_⟩
  ·rw [upd_same];rfl
  ·rw [upd_ne (Ne.symm hxl),upd_ne hpl,upd_ne (Ne.symm hxl),upd_same]
  ·rw [upd_ne hpx,upd_same]
  ·intro b o hb e
   rw [upd_ne hb,upd_ne (ne_of_none e hpf),upd_ne hb,upd_ne (ne_of_none e hlf)]
   exact e
theorem Ir (T:Txt mg) (F:MethAt K "House" "keep" "House.keep" mU ["self","name","worths"]) (bB:ClsAt K mg "Book") (aL:ClsAt K mg "House") (bA:oW K "House" "books") (lB:rM P w K mg base) (aR:cB P w K mg base):xM P w K mg base:=by
 refine F.aZ vL.2 GF.2 GJ (fun vs H Q E h=>?_) (fun f cdv A outer s H vs Q E hr h=>?_) <;> obtain ⟨h,dx,d,a,kvs,nm,ws,rfl,hh,hd,hv,hl,hS,hb,k⟩:=h
 ·rfl
 ·have hu:=hu_of hr
  refine ⟨_,(ao (aV (Wy hu (qv 1) (dj (K:=K) rfl (qv 0))) (aq (eX)) aO)
   (ao (aV (aK op_ge (aA Pk (by rfl) T.cF PySem.boot_len (aj (dj (K:=K) rfl (qv 0)) ak)) (qN T.KC) (nomark _)) (aq (eX)) aO)
   (ao (aY (au aR (hr.mono (by decide)) pass0 (aj (qv 2) ak)))
   (aq (rZ hu (dj (K:=K) rfl (qv 0)) (qv 1) (Zm (K:=K) rfl bB lB (hr.mono (by decide)) pass0 (aj (qv 2) ak)) rfl))))),?_⟩
  have hg:DGet H d (.str nm) none:=by
   have:=DGet.k (k:=Sum.inr nm) hd
   rw [hv] at this
   exact this
  walk_at "wp"
  refine ⟨_,_,_,hh,aL.cl,bA,_,by rfl,?_⟩
  walk_at "wp"
  refine ⟨_,hg,?_⟩
  walk_at "wp"
  refine ⟨_,_,_,hh,aL.cl,bA,_,by rfl,?_⟩
  walk_at "wp"
  refine ⟨_,hd,?_⟩
  walk_at "wp"
  rw [if_neg (by omega)]
  refine ⟨a,ws,rfl,hS,hb.two,hb.top,hb.le,fun b bx hbf hbx hne=>?_⟩
  have hab:∀ c o,H c=some o→upd (upd H bx (.own b)) b (.ins (mq K "Book") bx []) c=some o:=fun c o e=>by
   rw [upd_ne (ne_of_none e hbf),upd_ne (ne_of_none e hbx)];exact e
  refine ⟨b,bx,a,ws,rfl,upd_same,Same.sq hab hS,hb.top,fun wl tl H2 hwl htl hwt hb2 Qx Qy h2=>⟨rfl,?_⟩⟩
  have hcb:∀ {c:Addr} {o:HO},H c=some o→c≠b:=fun e=>ne_of_none e hbf
  have hh2:=h2 _ _ (hcb hh) (hab _ _ hh)
  have hd2:=h2 _ _ (hcb hd) (hab _ _ hd)
  refine ⟨_,_,_,hh2,aL.cl,bA,_,by rfl,?_⟩
  walk_at "wp"
  refine ⟨_,DPut.k (k:=Sum.inr nm) hd2 (aX (by omega)),?_⟩
  rw [putK_new _ hv]
  have hfree:∀ {c:Addr},upd (upd H bx (.own b)) b (.ins (mq K "Book") bx []) c=none→H c=none:=fun {c} e=>by
   cases z:H c with
   | none=>rfl
   | some o=>rw [hab _ _ z] at e;cases e
  have hwd:wl≠d:=fun e=>by rw [e,hd2] at Qx;cases Qx
  have htd:tl≠d:=fun e=>by rw [e,hd2] at Qy;cases Qy
  have hbd:b≠d:=fun e=>by rw [e,hd2] at hb2;cases hb2
  refine k b bx wl tl _ hbf (hfree hwl) (hfree htl) hwt upd_same ?_ ?_ ?_ fun c o n e=>?_
  ·rw [upd_ne hbd];exact hb2
  ·rw [upd_ne hwd];exact Qx
  ·rw [upd_ne htd];exact Qy
  ·rw [upd_ne n];exact h2 _ _ (hcb e) (hab _ _ e)
theorem Af (T:Txt mg) (F:xW K "House" "House.__init__" fW ["self"]) (aL:ClsAt K mg "House") (bA:oW K "House" "books") :pP P w K mg base:=by
 refine F.aZ nR.2 yr.2 yt (fun vs H Q E h=>?_) (fun f cdv A outer s H vs Q E hr h=>?_) <;> obtain ⟨x,dx,rfl,hx,k⟩:=h
 ·rfl
 ·have hu:=hu_of hr
  refine ⟨_,(aq (Pj (K:=K) rfl (qv 0) nj)),?_⟩
  walk_at "wp"
  intro d hd
  have hxd:x≠d:=ne_of_none hx hd
  refine ⟨_,_,_,Same.new hd _ _ hx,aL.cl,bA,by decide,k d _ hd ?_ ?_ ?_⟩
  ·rw [upd_same];rfl
  ·rw [upd_ne (Ne.symm hxd),upd_same]
  ·intro b o hb e
   rw [upd_ne hb,upd_ne (ne_of_none e hd)]
   exact e
theorem Iu (T:Txt mg) (F:aN K mg "_law_mixed" mV ["_law_cell","_law_place"]) :xO P w K mg base:=by
 refine F.aZ vM.2 GK.2 vN (fun vs H Q E h=>?_) (fun f cdv A outer s H vs Q E hr h=>?_) <;> obtain ⟨c,p,rfl,k⟩:=h
 ·rfl
 ·have hu:=hu_of hr
  refine ⟨_,(ao (aQ (i:=2) vN.nd rfl (Or.inl rfl) (bf op_mod (bf xR (bf op_add (bf op_add (bf op_mod (qv 0) aB) (bf xR aB (qv 1))) aB) aB) aB))
   (aq (aG (bf op_mod (bf xR (bf op_add (qv 2) (bf xR aB (qv 1))) aB) aB)))),?_⟩
  walk_at "wp"
  exact ⟨.inl ⟨by decide,by decide⟩,.inr ⟨by decide,by decide⟩,.inl ⟨by decide,by decide⟩,.inr ⟨by decide,by decide⟩,k⟩
theorem Ld (T:Txt mg) (F:aN K mg "_law_book" pL ["_law_script","_law_k"]) (tH:xO P w K mg base) (dN:yw P w K mg base):Ab P w K mg base:=by
 refine F.aZ xu.2 Ii.2 cU (fun vs H Q E h=>?_) (fun f cdv A outer s H vs Q E hr h=>?_) <;> obtain ⟨a,ns,j,rfl,hS,k⟩:=h
 ·rfl
 ·have hu:=hu_of hr
  refine ⟨_,(ao (aQ (i:=2) cU.nd rfl (Or.inl rfl) (bf op_add aB (bf op_mod (au dN (hr.mono (by decide)) pass0 (aj (qv 0) (aj (qv 1) ak))) aB)))
   (ao (aQ (i:=3) cU.nd rfl (Or.inl rfl) (au dN (hr.mono (by decide)) pass0 (aj (qv 0) (aj (bf op_add (qv 1) aB) ak))))
   (ao (aQ (i:=4) cU.nd rfl (Or.inl rfl) (au dN (hr.mono (by decide)) pass0 (aj (qv 0) (aj (bf op_add (qv 1) aB) ak))))
   (ao (aQ (i:=5) cU.nd rfl (Or.inl rfl) (bY cD (eV (Za rfl)) (bf op_mod (qv 3) aB) (fun _ _=>rfl)))
   (ao (aQ (i:=6) cU.nd rfl (Or.inl rfl) (eV ak))
   (ao (bL PassesOwn.never rfl (bK rfl T.cJ (aj (qv 2) ak)) (aW (i:=7) cU.nd rfl (Or.inl rfl)) (aq (aV (aK u0 (bf op_mod (qv 3) aB) aB (nomark _)) (ao (aY (iJ (K:=K) rfl PySem.F.plainAttrs_list PySem.F.slot_list_append PySem.F.type_list_append bN (qv 6) (aj (bf op_mod (bf op_add (qv 4) (au tH (hr.mono (by decide)) pass0 (aj (qv 3) (aj (qv 7) ak)))) (bf op_add (qv 5) aB)) ak)))
   (aq (aQ (i:=4) cU.nd rfl (Or.inl rfl) (bf m8 (qv 4) (bf op_add (qv 5) aB))))) (aq (aV (aK op_eq (bf op_mod (qv 3) aB) aB (nomark _)) (aq (aY (iJ (K:=K) rfl PySem.F.plainAttrs_list PySem.F.slot_list_append PySem.F.type_list_append bN (qv 6) (aj (aA (O9 rfl) (by rfl) T.TQ JZ (aj (bY cD (eV (aj (qv 7) (aj (bf xR (qv 7) (qv 7)) ak))) (bf op_mod (bf m8 (qv 3) aB) aB) (fun _ _=>rfl)) (aj aB ak))) ak)))) (aq (aV (aK op_eq (bf op_mod (qv 3) aB) aB (nomark _)) (aq (aY (iJ (K:=K) rfl PySem.F.plainAttrs_list PySem.F.slot_list_append PySem.F.type_list_append bN (qv 6) (aj (bf xR (cV Ue (by rfl) T.aaG VF (aj (fM op_eq (qv 7) (bf op_mod (qv 4) (qv 2)) (nomark _)) ak)) (bf op_add aB (bf op_mod (bf m8 (qv 4) (qv 2)) aB))) ak)))) (aq (aY (iJ (K:=K) rfl PySem.F.plainAttrs_list PySem.F.slot_list_append PySem.F.type_list_append bN (qv 6) (aj (bf op_mod (qv 4) aB) ak)))))))))))
   (aq (aG (qv 6))))))))),?_⟩
  walk_at "wp"
  refine ⟨a,ns,j,rfl,hS,?_⟩
  walk_at "wp"
  refine ⟨a,ns,j+1,rfl,hS,?_⟩
  walk_at "wp"
  refine ⟨a,ns,j+2,rfl,hS,?_⟩
  walk_at "wp"
  obtain ⟨b0,hb0,hb1⟩:=iM (x:=cell ns j) (m:=15) (by decide)
  generalize afL:cell ns (j+1)=way
  generalize hc:cell ns (j+2)=c
  obtain ⟨b,hb⟩:∃ b:Nat,2+cell ns j % 15=(b:Int):=⟨2+b0,by omega⟩
  rw [hb]
  have hb2:2≤b:=by omega
  have aeH:b≤16:=by omega
  refine ⟨by decide,fun p0 hp0=>?_⟩
  obtain ⟨r,hr0,hr1⟩:=iM (x:=way) (m:=8) (by decide)
  rw [show ((8:Nat):Int)=8 from rfl] at hr0
  rw [hr0]
  obtain ⟨mo,hmo,hm1,hm2⟩:∃ mo:Nat,atI [V.int 50,V.int 50,V.int 50,V.int 9,V.int 2,V.int 50,V.int 50,V.int 50] (r:Int)=some (vI mo)∧0<mo∧mo≤50:=by
   have:r=0∨r=1∨r=2∨r=3∨r=4∨r=5∨r=6∨r=7:=by omega
   rcases this with rfl | rfl | rfl | rfl | rfl | rfl | rfl | rfl
   ·exact ⟨50,rfl,by decide,by decide⟩
   ·exact ⟨50,rfl,by decide,by decide⟩
   ·exact ⟨50,rfl,by decide,by decide⟩
   ·exact ⟨9,rfl,by decide,by decide⟩
   ·exact ⟨2,rfl,by decide,by decide⟩
   ·exact ⟨50,rfl,by decide,by decide⟩
   ·exact ⟨50,rfl,by decide,by decide⟩
   ·exact ⟨50,rfl,by decide,by decide⟩
  refine ⟨_,bQ.of upd_same,_,hmo,by decide,fun p hp=>?_⟩
  have hp':H p=none:=(Same.new hp0).free hp
  refine ⟨by omega,by omega,mj.go (fun i σ H2=>∃ (c:Int) (ws:List Nat) (v:Option V),σ=[some (.ref a),some (vI j),some (vI b),some (.int way),some (.int c),some (vI mo),some (.ref p),v]∧H2 p=some (.lst (ws.map vI))∧ws.length=i∧(∀ x∈ws,x≤50)∧Same H H2) ⟨c,[],none,rfl,upd_same,rfl,by simp,(Same.new hp0).trans (Same.new hp)⟩ ?_ ?_⟩
  ·rintro i σ H2 N hi ⟨c,ws,v,rfl,hp2,hl,hw,hs⟩ hN
   have fin:∀ (x:Nat) (c':Int) (H3:Hp),x≤50→H3 p=some (.lst (ws.map vI))→Same H H3→N [some (.ref a),some (vI j),some (vI b),some (.int way),some (.int c'),some (vI mo),some (.ref p),some (.int i)] (upd H3 p (.lst (ws.map vI++[vI x]))):=fun x c' H3 hx h3 hs3=>by
    refine hN _ _ ⟨c',ws++[x],_,rfl,by rw [upd_same,List.map_append];rfl,by simp [hl],fun y hy=>?_,fun q o e=>?_⟩
    ·rcases List.mem_append.mp hy with z | z
     ·exact hw y z
     ·rw [List.mem_singleton.mp z];exact hx
    ·rw [upd_ne (ne_of_none e hp')];exact hs3 _ _ e
   have hlen:(ws.map vI).length<sizeLine:=by rw [List.length_map];exact aX (by omega)
   walk_at "wp"
   rw [hr0]
   refine ite2 (fun e=>?_) (fun e=>ite2 (fun e=>?_) (fun e=>ite2 (fun e=>?_) (fun e=>?_)))
   ·refine ⟨⟨_,SqL.of hp2⟩,way,i,rfl,?_⟩
    walk_at "wp"
    obtain ⟨x,hx,hx1⟩:=iM (x:=c+mixed way (i:Int)) (m:=mo+1) (by omega)
    rw [show ((mo:Int)+1)=((mo+1:Nat):Int) from rfl,hx]
    refine ⟨by omega,_,hp2,hlen,su (by omega) (by omega),fin x _ H2 (by omega) hp2 hs⟩
   ·refine ⟨⟨_,SqL.of hp2⟩,.inl ⟨by omega,by omega⟩,by decide,fun q hq=>⟨su (by decide) (by decide),?_⟩⟩
    obtain ⟨x,hx,hx1⟩:=iM (x:=way / 8) (m:=2) (by decide)
    rw [show ((2:Nat):Int)=2 from rfl] at hx
    rw [hx]
    have h3:upd H2 q (.lst [.int i,.int ((i:Int)*i)]) p=some (.lst (ws.map vI)):=by rw [upd_ne (ne_of_none hp2 hq)];exact hp2
    have hs3:Same H (upd H2 q (.lst [.int i,.int ((i:Int)*i)])):=hs.trans (Same.new hq)
    obtain ⟨y,hy⟩:∃ y:Nat,atI [V.int (i:Int),V.int ((i:Int)*i)] (x:Int)=some (vI y):=by
     have:x=0∨x=1:=by omega
     rcases this with rfl | rfl
     ·exact ⟨i,rfl⟩
     ·exact ⟨i*i,rfl⟩
    refine ⟨_,bQ.of upd_same,_,hy,?_⟩
    walk_at "wp"
    refine ⟨_,h3,hlen,?_⟩
    have e2:(V.int (if 50<(y:Int) then 50 else (y:Int)))=vI (if 50<y then 50 else y):=by
     rw [vI];congr 1;split <;> split <;> omega
    rw [e2]
    exact fin _ _ _ (by split <;> omega) h3 hs3
   ·refine ⟨⟨_,SqL.of hp2⟩,by omega,su (by omega) (by omega),?_⟩
    obtain ⟨x,hx,hx1⟩:=iM (x:=c / (b:Int)) (m:=50) (by decide)
    rw [show ((50:Nat):Int)=50 from rfl] at hx
    rw [hx]
    by_cases hz:(i:Int)=c % (b:Int)
    ·rw [decide_eq_true hz]
     walk_at "wp"
     refine ⟨.inl ⟨by decide,by decide⟩,_,hp2,hlen,?_⟩
     rw [show (V.int (1*(1+(x:Int))))=vI (1+x) by rw [vI];congr 1;omega]
     exact fin _ _ _ (by omega) hp2 hs
    ·rw [decide_eq_false hz]
     walk_at "wp"
     refine ⟨.inl ⟨by decide,by decide⟩,_,hp2,hlen,?_⟩
     rw [show (V.int ((if false=true then (1:Int) else 0)*(1+(x:Int))))=vI 0 by rw [if_neg Bool.false_ne_true,Int.zero_mul];rfl]
     exact fin _ _ _ (by omega) hp2 hs
   ·refine ⟨⟨_,SqL.of hp2⟩,_,hp2,hlen,?_⟩
    obtain ⟨x,hx,hx1⟩:=iM (x:=c) (m:=51) (by decide)
    rw [show ((51:Nat):Int)=51 from rfl] at hx
    rw [hx]
    exact fin x _ _ (by omega) hp2 hs
  ·rintro σ H2 ⟨c,ws,v,rfl,hp2,hl,hw,hs⟩
   walk_at "wp"
   exact k ws p H2 (by omega) (by omega) hw hp' hp2 hs
theorem ab0 {f:Addr} {fd:FuncData} (T:Txt mg) (F:Fun K "law" "law" GQ f fd) (aL:ClsAt K mg "House") (jJ:Di P w K mg base) (bM:gZ P w K mg base) (qd:vO P w K mg base) (qe:vP P w K mg base) (lC:rB P w K mg base) (gP:rE P w K mg base) (oE:uN P w K mg base) (vZ:z9 P w K mg base) (lD:rJ P w K mg base) (dN:yw P w K mg base) (v7:Aa P w K mg base) (tK:xK P w K mg base) (mW:xM P w K mg base) (jK:pP P w K mg base) (v8:Ab P w K mg base):FnOk P w K mg base CX0 10 f fd ["_law_script"] (Qp K):=by
 refine F.okQ TV.2 ZV.2 gO (fun vs H Q E h=>?_) (fun cdv A outer s H vs Q E hr h=>?_) <;> obtain ⟨a,ns,rfl,hS0,hlen,k⟩:=h
 ·rfl
 ·have hu:=hu_of hr
  refine ⟨_,(ao (aQ (i:=1) gO.nd rfl (Or.inl rfl) (au v8 (hr.mono (by decide)) pass0 (aj (qv 0) (aj aB ak))))
   (ao (aQ (i:=2) gO.nd rfl (Or.inl rfl) (bf op_mod (au dN (hr.mono (by decide)) pass0 (aj (qv 0) (aj aB ak))) aB))
   (ao (aQ (i:=3) gO.nd rfl (Or.inl rfl) (bf op_add aB (bf op_mod (au dN (hr.mono (by decide)) pass0 (aj (qv 0) (aj aB ak))) aB)))
   (ao (aQ (i:=4) gO.nd rfl (Or.inl rfl) (Xd (K:=K) rfl aL jK (hr.mono (by decide)) pass0))
   (ao (aQ (i:=5) gO.nd rfl (Or.inl rfl) (cV fL (by rfl) T.bW bH (aj (qv 1) ak)))
   (ao (aY (bR (K:=K) (pl:=_) rfl aL mW (hr.mono (by decide)) pass0 (qv 4) (aj gR (aj (qv 5) ak))))
   (ao (aY (bR (K:=K) (pl:=_) rfl aL mW (hr.mono (by decide)) pass0 (qv 4) (aj gR (aj (qv 5) ak))))
   (ao (aY (bR (K:=K) (pl:=_) rfl aL tK (hr.mono (by decide)) pass0 (qv 4) (aj gR (aj aB (aj (bf op_mod (au dN (hr.mono (by decide)) pass0 (aj (qv 0) (aj aB ak))) aB) ak)))))
   (ao (aV (gU (bC (au v7 (hr.mono (by decide)) pass0 (aj (qv 5) (aj (qv 1) ak))))) (aq (aG dw)) aO)
   (ao (aY (au gP (hr.mono (by decide)) pass0 (aj (qv 5) ak)))
   (ao (aV (gU (bC (au jJ (hr.mono (by decide)) pass0 (aj (bR (K:=K) (pl:=_) rfl aL bM (hr.mono (by decide)) pass0 (qv 4) (aj gR ak)) (aj (qv 1) ak))))) (aq (aG dw)) aO)
   (ao (aQ (i:=6) gO.nd rfl (Or.inl rfl) (cV fL (by rfl) T.bW bH (aj (qv 1) ak)))
   (ao (Fj (bf op_mod (au dN (hr.mono (by decide)) pass0 (aj (qv 0) (aj aB ak))) aB) (Fl (qv 6) aB set_list))
   (ao (bL PassesOwn.never rfl (bK rfl T.cJ (aj aB ak)) (aW (i:=7) gO.nd rfl (Or.inl rfl)) (ao (aQ (i:=8) gO.nd rfl (Or.inl rfl) (eV ak))
   (ao (bL PassesOwn.never rfl (bK rfl T.cJ (aj aB ak)) (aW (i:=9) gO.nd rfl (Or.inl rfl)) (ao (aV (aK u0 (qv 7) aB (nomark _)) (aq (aQ (i:=10) gO.nd rfl (Or.inl rfl) (au vZ (hr.mono (by decide)) pass0 (aj (qv 7) (aj (cV fL (by rfl) T.bW bH (aj (qv 6) ak)) (aj (qv 2) (aj (qv 3) ak))))))) (aq (aQ (i:=10) gO.nd rfl (Or.inl rfl) (au lD (hr.mono (by decide)) pass0 (aj (qv 4) (aj (qv 7) (aj (qv 2) (aj (qv 3) ak))))))))
   (ao (aY (iJ (K:=K) rfl PySem.F.plainAttrs_list PySem.F.slot_list_append PySem.F.type_list_append bN (qv 8) (aj (au oE (hr.mono (by decide)) pass0 (aj (qv 10) ak)) ak)))
   (aq (aY (au gP (hr.mono (by decide)) pass0 (aj (qv 10) ak)))))))
   (ao (aV (dX (gU (bC (au lC (hr.mono (by decide)) pass0 (aj (bY cD (qv 8) aB (fun _ _=>rfl)) (aj (bY cD (qv 8) aB (fun _ _=>rfl)) ak))))) (cM (gU (bC (aA jC (by rfl) T.aF aD (aj (bY cD (qv 8) aB (fun _ _=>rfl)) (aj (rY (aj (bF T.bW bH) (aj (bF T.cQ bZ) ak))) ak))))))).qt (aq (aG dw)) aO)
   (aq (aV (J4 (aK Ud (qv 7) (eV (aj aB (aj aB ak))) (by with_unfolding_all rfl)) (Es (gU (bC (au jJ (hr.mono (by decide)) pass0 (aj (au qe (hr.mono (by decide)) pass0 (aj (bY cD (qv 8) aB (fun _ _=>rfl)) ak)) (aj (au qd (hr.mono (by decide)) pass0 (aj (qv 6) ak)) ak))))))).qt (aq (aG dw)) aO))))))
   (aq (aG (eU (au jJ (hr.mono (by decide)) pass0 (aj (bR (K:=K) (pl:=_) rfl aL bM (hr.mono (by decide)) pass0 (qv 4) (aj gR ak)) (aj (qv 1) ak))) (m9 (au jJ (hr.mono (by decide)) pass0 (aj (bR (K:=K) (pl:=_) rfl aL bM (hr.mono (by decide)) pass0 (qv 4) (aj gR ak)) (aj (qv 6) ak))))))))))))))))))))),?_⟩
  have hS:bQ K H a (ns.map V.int):=.inl hS0
  obtain ⟨n,hn1,hn2⟩:=iM (x:=cell ns 3) (m:=300) (by decide)
  rw [show ((300:Nat):Int)=300 from rfl] at hn1
  obtain ⟨l0,hl1,hl2⟩:=iM (x:=cell ns 4) (m:=3) (by decide)
  rw [show ((3:Nat):Int)=3 from rfl] at hl1
  obtain ⟨w,hw1,hw2⟩:=iM (x:=cell ns 5) (m:=51) (by decide)
  rw [show ((51:Nat):Int)=51 from rfl] at hw1
  refine abv (fun σ H1=>∃ (p h dx d p1:Addr) (ws:List Nat),σ=[some (.ref a),some (.ref p),some (vI n),some (vI (1+l0)),some (.ref h),some (.ref p1),none,none,none,none,none]∧Bk ws∧H1 p=some (.lst (ws.map vI))∧H1 p1=some (.lst (ws.map vI))∧p≠p1∧H1 h=some (.ins (mq K "House") dx [("books",.ref d)])∧H1 d=some (.dK [])∧(∀ c o,H c=some o→c≠d∧c≠p1)∧Same H H1) (fun N hN=>?_) ?_
  ·walk_at "wp"
   refine ⟨a,ns,0,rfl,hS,fun ws p H1 w2 w16 w50 fp hp s1=>?_⟩
   walk_at "wp"
   refine ⟨a,ns,3,rfl,s1.sq hS,?_⟩
   walk_at "wp"
   refine ⟨a,ns,4,rfl,s1.sq hS,?_⟩
   walk_at "wp"
   rw [hn1,hl1]
   intro h dx fh fdx ndx
   refine ⟨h,dx,rfl,upd_same,fun d H2 fd hh2 hd2 fr2=>⟨rfl,?_⟩⟩
   have s2:=Uv fh fdx fr2
   have df:H1 d=none:=by
    cases y:H1 d with
    | none=>rfl
    | some o=>rw [upd_ne (ne_of_none y fh),upd_ne (ne_of_none y fdx),y] at fd;cases fd
   walk_at "wp"
   refine ⟨_,bQ.of (s2 _ _ hp),fun p1 fp1=>?_⟩
   have s3:=Same.new (o:=.lst (ws.map vI)) fp1
   exact hN _ _ ⟨p,h,dx,d,p1,ws,rfl,⟨w2,w16,w50⟩,s3 _ _ (s2 _ _ hp),upd_same,ne_of_none (s2 _ _ hp) fp1,s3 _ _ hh2,s3 _ _ hd2,fun c o e=>⟨ne_of_none (s1 _ _ e) df,ne_of_none (s2 _ _ (s1 _ _ e)) fp1⟩,s1.trans (s2.trans s3)⟩
  rintro σ H1 ⟨p,h,dx,d,p1,ws,rfl,Ad,hp,hp1,npp,hh,hd,hof,hs1⟩
  have hb2:=Ad.two
  have aeH:=Ad.top
  try dsimp only
  refine abw (fun σ H2=>∃ (ba Km Ds Ko bb Jy Bg CW r:Addr),σ=[some (.ref a),some (.ref p),some (vI n),some (vI (1+l0)),some (.ref h),some (.ref p1),none,none,none,none,none]∧Va K H2 h dx d ba Km Ds Ko bb Jy Bg CW r p Bg ws w∧∀ o,H a=some o→H2 a=some o) (fun N hN=>?_) ?_
  ·walk_at "wp"
   have nl:∀ {X:Hp} {c xs kk},X d=some (HO.dK kk)→X c=some (HO.lst xs)→c≠d:=fun {X c xs kk} e e2 y=>by rw [y,e] at e2;cases e2
   have ni:∀ {X:Hp} {c C x fs kk},X d=some (HO.dK kk)→X c=some (HO.ins C x fs)→c≠d:=fun {X c C x fs kk} e e2 y=>by rw [y,e] at e2;cases e2
   refine ⟨_,_,hh,by rfl,h,dx,d,p1,[],"a",ws,rfl,hh,hd,rfl,by decide,bQ.of hp1,Ad,fun ba Km Ds Ko H2 fba aeJ afO afP hd2 ZX TY afa fr2=>?_⟩
   have hh2:=fr2 _ _ (ni hd hh) hh
   have hp2:=fr2 _ _ (nl hd hp) hp
   have Yv:=fr2 _ _ (nl hd hp1) hp1
   refine ⟨_,_,hh2,by rfl,h,dx,d,p1,_,"b",ws,rfl,hh2,hd2,rfl,(by show 1<20;decide),bQ.of Yv,Ad,fun bb Jy Bg CW H3 fbb Z6 Z7 aeK xP adv Yw Yx fr3=>?_⟩
   have hh3:=fr3 _ _ (ni hd2 hh2) hh2
   have hp3:=fr3 _ _ (nl hd2 hp2) hp2
   have aeL:=fr3 _ _ (nl hd2 Yv) Yv
   have adw:=fr3 _ _ (ni hd2 ZX) ZX
   have adx:=fr3 _ _ (nl hd2 TY) TY
   have a3:∀ o,H a=some o→H3 a=some o:=fun o e=>fr3 _ _ (hof _ _ e).1 (fr2 _ _ (hof _ _ e).1 (hs1 _ _ e))
   refine ⟨_,_,hh3,by rfl,a,ns,5,rfl,.inl (Er a3 hS0),?_⟩
   walk_at "wp"
   rw [hw1]
   refine ⟨h,dx,d,bb,Jy,Bg,CW,_,"b",ws,[],1,w,rfl,hh3,xP,rfl,adv,Yw,Yx,aeK,by omega,by omega,by omega,by decide,fun r H4 fr hr4 aaL ady fr4=>?_⟩
   have m1:p≠Bg:=ne_of_none hp2 Z6
   have m2:p≠CW:=ne_of_none hp2 Z7
   have m3:p1≠Bg:=ne_of_none Yv Z6
   have m4:p1≠CW:=ne_of_none Yv Z7
   have m5:Ds≠Bg:=ne_of_none TY Z6
   have m6:Ds≠CW:=ne_of_none TY Z7
   have ii:∀ {c C x fs},H3 c=some (HO.ins C x fs)→H4 c=some (HO.ins C x fs):=fun {c C x fs} e=>fr4 _ _ (fun y=>by rw [y,Yw] at e;cases e) (fun y=>by rw [y,Yx] at e;cases e) e
   have Vd:=fr4 _ _ (fun y=>by rw [y,Yw] at xP;cases xP) (fun y=>by rw [y,Yx] at xP;cases xP) xP
   have GR:=fr4 _ _ m1 m2 hp3
   have Yy:=fr4 _ _ m3 m4 aeL
   have adz:=fr4 _ _ m5 m6 adx
   refine ⟨p1,p,ws.map fun d:Nat=>(d:Int),rfl,by rw [wX];exact bQ.of Yy,by rw [wX];exact bQ.of GR,by rw [List.length_map];omega,?_⟩
   walk_at "wp"
   refine ⟨fun c=>c=p1,.ref p1,rfl,⟨p1,true,_,rfl,rfl,Yy,by rw [List.length_map];omega,fun x hx=>.inl (by obtain ⟨y,_,rfl⟩:=List.mem_map.mp hx;rfl)⟩,fun H5 f5=>?_⟩
   have m7:Ds≠p1:=Ne.symm (ne_of_none hp1 aeJ)
   have jj:∀ {c C x fs},H4 c=some (HO.ins C x fs)→H5 c=some (HO.ins C x fs):=fun {c C x fs} e=>f5 _ _ (fun y=>by rw [y,Yy] at e;cases e) e
   have hh5:=jj (ii hh3)
   have hd5:=f5 _ _ (fun y=>by rw [y,Yy] at Vd;cases Vd) Vd
   have aaM:=f5 _ _ m7 adz
   have YH:=f5 _ _ npp GR
   refine ⟨_,_,hh5,by rfl,h,dx,d,ba,Km,Ds,Ko,_,"a",ws,rfl,hh5,hd5,rfl,jj (ii adw),aaM,fun q H6 fq hq s6=>?_⟩
   refine ⟨q,p,ws.map (fun d:Nat=>(d:Int)),ws.map (fun d:Nat=>(d:Int)),rfl,by rw [wX];exact hq,bQ.of (by rw [wX];exact s6 _ _ YH),by rw [List.length_map];omega,?_⟩
   rw [decide_eq_true rfl]
   walk_at "wp"
   have hr5:=f5 _ _ (fun y=>by rw [y,Yy] at hr4;cases hr4) hr4
   refine hN _ _ ⟨ba,Km,Ds,Ko,bb,Jy,Bg,CW,r,rfl,⟨s6 _ _ hh5,s6 _ _ hd5,s6 _ _ (jj (ii adw)),s6 _ _ aaM,s6 _ _ (jj (ii adv)),s6 _ _ (f5 _ _ (Ne.symm m3) aaL),s6 _ _ (f5 _ _ (Ne.symm m4) ady),s6 _ _ hr5,s6 _ _ YH,s6 _ _ (f5 _ _ (Ne.symm m3) aaL)⟩,fun o e=>?_⟩
   have na:=hof _ _ e
   have e3:=a3 o e
   refine s6 _ _ (f5 _ _ na.2 (fr4 _ _ ?_ ?_ e3))
   ·have e2:=fr2 _ _ na.1 (hs1 _ _ e)
    exact ne_of_none e2 Z6
   ·have e2:=fr2 _ _ na.1 (hs1 _ _ e)
    exact ne_of_none e2 Z7
  rintro σ H2 ⟨ba,Km,Ds,Ko,bb,Jy,Bg,CW,r,rfl,A,hoa⟩
  try dsimp only
  refine Wz (fun σ H3=>∃ (nw:Addr),σ=[some (.ref a),some (.ref p),some (vI n),some (vI (1+l0)),some (.ref h),some (.ref p1),some (.ref nw),none,none,none,none]∧Va K H3 h dx d ba Km Ds Ko bb Jy Bg CW r p nw ws w) (fun N hN=>?_) ?_
  ·walk_at "wp"
   refine ⟨_,bQ.of A.hp,fun l fl=>?_⟩
   have s3:=Same.new (o:=.lst (ws.map vI)) fl
   refine ⟨a,ns,5,rfl,.inl (Er (fun o e=>s3 _ _ (hoa o e)) hS0),?_⟩
   walk_at "wp"
   rw [hw1]
   refine ⟨_,upd_same,1,oZ (i:=1) (by rw [List.length_map];omega),?_⟩
   have up:Same H2 (upd (upd H2 l (.lst (ws.map vI))) l (.lst ((ws.map vI).set 1 (vI w)))):=fun c o e=>by rw [upd_ne (ne_of_none e fl),upd_ne (ne_of_none e fl)];exact e
   have A3:=A.same up
   exact hN _ _ ⟨l,rfl,⟨A3.hh,A3.hd,A3.ha,A3.hwa,A3.hb,A3.hwb,A3.htb,A3.hr,A3.hp,by rw [upd_same,←List.map_set]⟩⟩
  clear A hoa
  rintro σ H3 ⟨nw,rfl,A3⟩
  try dsimp only
  have Yz:Bk (ws.set 1 w):=Ad.acS (by omega)
  refine Mh (fun σ H4=>∃ (v1 v2 v3 v4:Option V),σ=[some (.ref a),some (.ref p),some (vI n),some (vI (1+l0)),some (.ref h),some (.ref p1),some (.ref nw),v1,v2,v3,v4]∧Va K H4 h dx d ba Km Ds Ko bb Jy Bg CW r p nw ws w) (fun N hN=>?_) ?_
  ·walk_at "wp"
   refine mj.go (fun j σ H4=>∃ (v1 v2 v3 v4:Option V),σ=[some (.ref a),some (.ref p),some (vI n),some (vI (1+l0)),some (.ref h),some (.ref p1),some (.ref nw),v1,v2,v3,v4]∧Va K H4 h dx d ba Km Ds Ko bb Jy Bg CW r p nw ws w) ⟨none,none,none,none,rfl,A3⟩ ?_ ?_
   ·rintro wh σ H4 N2 hwh ⟨v1,v2,v3,v4,rfl,A4⟩ Vb
    dsimp only
    simp only [L2.Ep,List.set_cons_zero,List.set_cons_succ]
    refine Wz (fun σ H5=>∃ (fo:Addr) (w0 w1:V) (c:Ct 2) (v3 v4:Option V),σ=[some (.ref a),some (.ref p),some (vI n),some (vI (1+l0)),some (.ref h),some (.ref p1),some (.ref nw),some (.int wh),some (.ref fo),v3,v4]∧H5 fo=some (.lst [w0,w1])∧XH wh (ws.set 1 w) n (1+l0) [[1,wt ws 1,w]] [(.inr "a",.ref ba),(.inr "b",.ref bb)] c∧Rp (fun _=>True) 2 H5 w0 c∧Rp (fun _=>True) 2 H5 w1 c∧Va K H5 h dx d ba Km Ds Ko bb Jy Bg CW r p nw ws w) (fun N hN=>?_) ?_
    ·walk_at "wp"
     refine ⟨by decide,fun fo ff=>?_⟩
     have A5:=A4.same (Same.new (o:=HO.lst []) ff)
     have fo5:=upd_same (H:=H4) (a:=fo) (o:=HO.lst [])
     generalize upd H4 fo (.lst [])=H5 at A5 fo5
     refine mj.go (fun j σ H6=>∃ (vs:List V) (v3 v4:Option V),σ=[some (.ref a),some (.ref p),some (vI n),some (vI (1+l0)),some (.ref h),some (.ref p1),some (.ref nw),some (.int wh),some (.ref fo),v3,v4]∧H6 fo=some (.lst vs)∧vs.length=j∧(∀ v∈vs,∃ c,XH wh (ws.set 1 w) n (1+l0) [[1,wt ws 1,w]] [(.inr "a",.ref ba),(.inr "b",.ref bb)] c∧Rp (fun b=>b≠fo) 2 H6 v c)∧(fo≠nw∧fo≠p∧fo≠Ds∧fo≠Bg∧fo≠CW)∧Va K H6 h dx d ba Km Ds Ko bb Jy Bg CW r p nw ws w) ⟨[],_,_,rfl,fo5,rfl,fun v hv=>(nomatch hv),⟨Ne.symm (ne_of_none A4.hn ff),Ne.symm (ne_of_none A4.hp ff),Ne.symm (ne_of_none A4.hwa ff),Ne.symm (ne_of_none A4.hwb ff),Ne.symm (ne_of_none A4.htb ff)⟩,A5⟩ ?_ ?_
     ·rintro j σ H6 N3 hj ⟨vs,v3,v4,rfl,fo6,hvl,hvs,nfo,A6⟩ hN3
      -- the answer
      have rest:∀ (H0 H7:Hp) (v:V) (c:Ct 2),Same H6 H0→Same H0 H7→Bf H0 H7 v c→XH wh (ws.set 1 w) n (1+l0) [[1,wt ws 1,w]] [(.inr "a",.ref ba),(.inr "b",.ref bb)] c→tSeq (tDrop (tBM K "list" yM (tVar 8) (tCons (tCall (uz K) [] E0 (tCons (tVar 10) tNil)) tNil))) (tDrop (tCall (qT K) [] E0 (tCons (tVar 10) tNil))) { nx:=N3,rt:=Q,bk:=N,ct:=N3 } [some (.ref a),some (.ref p),some (vI n),some (vI (1+l0)),some (.ref h),some (.ref p1),some (.ref nw),some (.int wh),some (.ref fo),some (.int j),some v] H7:=by
       intro H0 H7 v c s0 s7 adA Z8
       have fo7:=s7 _ _ (s0 _ _ fo6)
       walk_at "wp"
       refine ⟨⟨_,SqL.of fo7⟩,v,c,rfl,adA.1.move (fun _ _=>trivial) (fun _ _ _ e=>e),fun w' H8 s8 hw'=>?_⟩
       walk_at "wp"
       have fo8:=s8 _ _ fo7
       refine ⟨_,fo8,aX (by omega),?_⟩
       have sp8:=(adA.sp s7 s8).move (H':=upd H8 fo (.lst (vs++[w']))) fun c o hc e=>by
        rw [upd_ne (fun z=>?_)]
        ·exact e
        ·rw [z] at e hc
         rcases hc with hc | ⟨ys,hc⟩
         ·have:=hc.1;rw [s0 _ _ fo6] at this;cases this
         ·rw [fo8,hc] at e;cases e
       have h9:∀ c o,c≠fo→H8 c=some o→upd H8 fo (.lst (vs++[w'])) c=some o:=fun c o n1 e=>by rw [upd_ne n1];exact e
       have fo9:=upd_same (H:=H8) (a:=fo) (o:=.lst (vs++[w']))
       generalize upd H8 fo (.lst (vs++[w']))=H9 at sp8 h9 fo9
       refine ⟨_,v,rfl,sp8,fun H10 f10=>?_⟩
       have g10:∀ c o,c≠fo→H6 c=some o→H10 c=some o:=fun c o n1 e=>f10 _ _ (fun z=>by have:=z.1;rw [s0 _ _ e] at this;cases this) (h9 _ _ n1 (s8 _ _ (s7 _ _ (s0 _ _ e))))
       have aeP:=f10 _ _ (fun z=>by have:=z.1;rw [s0 _ _ fo6] at this;cases this) fo9
       refine hN3 _ _ ⟨vs++[w'],_,_,rfl,aeP,by rw [List.length_append,List.length_singleton,hvl],fun u hu=>?_,nfo,A6.but fo6 nfo g10⟩
       rcases List.mem_append.mp hu with z | z
       ·obtain ⟨c',q1,q2⟩:=hvs u z
        exact ⟨c',q1,q2.alive.move (fun b pb=>pb.1) fun b o pb e=>g10 b o pb.1 e⟩
       ·rw [List.mem_singleton.mp z]
        exact ⟨c,Z8,hw'.move (fun b pb z=>by rw [z,fo7] at pb;cases pb) fun b o pb e=>f10 _ _ (fun z=>z.2 pb) (h9 _ _ (fun z=>by rw [z,fo7] at pb;cases pb) e)⟩
      dsimp only
      simp only [L2.Ep,List.set_cons_zero,List.set_cons_succ]
      refine Mh (fun σ H7=>∃ (H0:Hp) (v:V) (c:Ct 2),σ=[some (.ref a),some (.ref p),some (vI n),some (vI (1+l0)),some (.ref h),some (.ref p1),some (.ref nw),some (.int wh),some (.ref fo),some (.int j),some v]∧Same H6 H0∧Same H0 H7∧Bf H0 H7 v c∧XH wh (ws.set 1 w) n (1+l0) [[1,wt ws 1,w]] [(.inr "a",.ref ba),(.inr "b",.ref bb)] c) (fun N hN=>?_) ?_
      ·walk_at "wp"
       refine ite2 (fun c1=>?_) (fun c1=>?_)
       ·refine ⟨_,bQ.of A6.hn,fun l fl=>?_⟩
        refine ⟨wh,n,1+l0,ws.set 1 w,l,rfl,by omega,bQ.of upd_same,Yz,hn2,by omega,by omega,fun v c H7 hi ha s7=>hN _ _ ⟨_,v,c,?_,Same.new fl,s7,ha,.inl ⟨by omega,hi⟩⟩⟩
        rfl
       ·refine ⟨h,dx,d,bb,Jy,Bg,CW,_,wh,n,1+l0,ws.set 1 w,[r],[[1,wt ws 1,w]],rfl,by omega,by omega,A6.hh,A6.hd,rfl,(by show 2≤20;decide),fun x hx=>?_,A6.hb,A6.hwb,Yz,A6.htb,rfl,(by show 1≤200;decide),fun i r' m' h1 h2=>?_,hn2,by omega,by omega,fun v c H7 hi ha s7=>hN _ _ ⟨H6,v,c,rfl,Same.refl _,s7,ha,.inr ⟨by omega,hi⟩⟩⟩
        ·have hx:x∈[V.str "a",V.str "b"]:=hx
         rcases List.mem_cons.mp hx with rfl | hx
         ·rfl
         ·rw [List.mem_singleton.mp hx];rfl
        ·have i0:i=0:=by have:=(List.getElem?_eq_some_iff.mp h1).1;rw [List.length_singleton] at this;omega
         subst i0
         obtain rfl:=Option.some.inj h1
         obtain rfl:=Option.some.inj h2
         exact ⟨A6.hr,Nat.le_refl 3⟩
      rintro σ H7 ⟨H0,v,c,rfl,s0,s7,ha,hi⟩
      exact rest H0 H7 v c s0 s7 ha hi
     ·rintro σ H6 ⟨vs,v3,v4,rfl,fo6,hvl,hvs,nfo,A6⟩
      match vs,hvl with
      | [w0,w1],_ =>
       obtain ⟨c,hc1,hc2⟩:=hvs w0 (by simp)
       obtain ⟨c',hc3,hc4⟩:=hvs w1 (by simp)
       obtain rfl:=hc1.uniq hc3
       exact hN _ _ ⟨fo,w0,w1,c,_,_,rfl,fo6,hc1,hc2.move (fun _ _=>trivial) (fun _ _ _ e=>e),hc4.move (fun _ _=>trivial) (fun _ _ _ e=>e),A6⟩
    rintro σ H5 ⟨fo,w0,w1,c,v3,v4,rfl,fo5,Z8,r0,r1,A5⟩
    try dsimp only
    obtain ⟨b,cs,rfl⟩:=Z8.two
    obtain ⟨a0,xs0,rfl,_,ha0,hl0,hb0,hx0⟩:=r0
    have r0:Rp (fun _=>True) 2 H5 (.ref a0) (.inr (b,cs)):=⟨a0,xs0,rfl,trivial,ha0,hl0,hb0,hx0⟩
    have hb:∃ b1 b2,gn (if b then "list" else "tuple") "list" = some b1∧gn (if b then "list" else "tuple") "tuple" = some b2∧(b1 || b2)=true:=by
     cases b with
     | true=>exact ⟨true,false,rfl,rfl,rfl⟩
     | false=>exact ⟨false,true,rfl,rfl,rfl⟩
    obtain ⟨b1,b2,i1,i2,i3⟩:=hb
    walk_at "wp"
    refine ⟨_,bQ.of fo5,_,rfl,_,bQ.of fo5,_,rfl,?_⟩
    refine ⟨_,_,_,rfl,r0,r1,fun H6 s6=>?_⟩
    walk_at "wp"
    refine ⟨_,bQ.of (s6 _ _ fo5),_,rfl,by decide,fun q fq=>?_⟩
    have s7:=s6.trans (Same.new (o:=.tup [.ty "list",.ty "tuple"]) fq)
    have q7:=upd_same (H:=H6) (a:=q) (o:=.tup [.ty "list",.ty "tuple"])
    generalize upd H6 q (.tup [.ty "list",.ty "tuple"])=H7 at s7 q7
    refine nD q7 (iQ (s7 _ _ ha0)) i1 i2 ?_
    rw [i3]
    walk_at "wp"
    refine ⟨by decide,fun q2 fq2=>?_⟩
    have s8:=s7.trans (Same.new (o:=.lst [.int 2,.int 9]) fq2)
    have q8:upd H7 q2 (.lst [.int 2,.int 9]) q2=some (.lst (([2,9]:List Int).map V.int)):=upd_same
    generalize upd H7 q2 (.lst [.int 2,.int 9])=H8 at s8 q8
    refine Zy (bQ.of q8) ?_
    by_cases c9:wh=2∨wh=9
    ·rw [decide_eq_true (by rcases c9 with rfl | rfl <;> decide)]
     walk_at "wp"
     obtain ⟨Rs,hRs,ec⟩:=Z8.rings c9
     rw [ec] at r1
     obtain ⟨l1,xs1,rfl,_,hl1',hll,hbb,hxx⟩:=r1
     obtain ⟨out,e1,e2,e3⟩:=Jz (by rw [hll,List.length_map]) hxx
     have hl1':H5 l1=some (.lst xs1):=hl1'
     rw [e1] at hl1'
     refine ⟨_,bQ.of (s8 _ _ fo5),_,rfl,?_⟩
     refine ⟨l1,out,rfl,s8 _ _ hl1',fun pp hpp=>?_,?_,fun q3 H9 fq3 YG s9=>?_⟩
     ·refine ⟨fun z=>?_,s8 _ _ (e3 pp hpp)⟩
      obtain ⟨R',M,L,hr',er⟩:=hRs.ring pp.2 (by rw [←e2];exact List.mem_map_of_mem hpp)
      rw [er] at z
      have:=hr'.head
      rw [List.map_eq_nil_iff.mp z] at this;cases this
     ·have h1:=congrArg List.length hRs.heads
      rw [List.length_map,List.length_map,←e2,List.length_map] at h1
      have:=Yz.few
      omega
     refine ⟨nw,ws.set 1 w,rfl,bQ.of (s9 _ _ (s8 _ _ A5.hn)),Yz,fun q4 H10 fq4 hq4 s10=>?_⟩
     have hh:out.map (fun pp=>V.int (pp.2.headD 0))=((cH (ws.set 1 w)).map (fun d:Nat=>(d:Int))).map V.int:=by
      rw [←hRs.heads,←e2,List.map_map,List.map_map];rfl
     rw [hh] at YG
     refine ⟨q3,q4,(cH (ws.set 1 w)).map (fun d:Nat=>(d:Int)),(cH (ws.set 1 w)).map (fun d:Nat=>(d:Int)),rfl,s10 _ _ YG,bQ.of (by rw [wX];exact hq4),by rw [List.length_map];have:=Yz.few;omega,?_⟩
     rw [decide_eq_true rfl]
     walk_at "wp"
     exact Vb _ _ ⟨_,_,_,_,rfl,A5.same (s8.trans (s9.trans s10))⟩
    ·rw [decide_eq_false (by simp;omega)]
     walk_at "wp"
     exact Vb _ _ ⟨_,_,_,_,rfl,A5.same s8⟩
   ·rintro σ H4 ⟨v1,v2,v3,v4,rfl,A4⟩
    exact hN _ _ ⟨v1,v2,v3,v4,rfl,A4⟩
  clear A3
  rintro σ H4 ⟨v1,v2,v3,v4,rfl,A4⟩
  try dsimp only
  walk_at "wp"
  refine ⟨_,_,A4.hh,by rfl,h,dx,d,ba,Km,Ds,Ko,_,"a",ws,rfl,A4.hh,A4.hd,rfl,A4.ha,A4.hwa,fun q H5 fq hq s5=>?_⟩
  have A5:=A4.same s5
  refine ⟨q,p,ws.map (fun d:Nat=>(d:Int)),ws.map (fun d:Nat=>(d:Int)),rfl,by rw [wX];exact hq,bQ.of (by rw [wX];exact A5.hp),by rw [List.length_map];omega,?_⟩
  rw [decide_eq_true rfl]
  walk_at "wp"
  refine ⟨_,_,A5.hh,by rfl,h,dx,d,bb,Jy,Bg,CW,_,"b",ws.set 1 w,rfl,A5.hh,A5.hd,rfl,A5.hb,A5.hwb,fun q2 H6 fq2 hq2 s6=>?_⟩
  have A6:=A5.same s6
  refine ⟨q2,nw,(ws.set 1 w).map (fun d:Nat=>(d:Int)),(ws.set 1 w).map (fun d:Nat=>(d:Int)),rfl,by rw [wX];exact hq2,bQ.of (by rw [wX];exact A6.hn),by rw [List.length_map,List.length_set];omega,?_⟩
  rw [decide_eq_true rfl]
  exact k _
end
end My
namespace My
open PySem PySem.Spec PyProof.Rows L2
theorem all_mk {P:Program} {w:World} {K:PySem.W.Frag} {h:Heap} {mg:Str→Option Value} {fa:Addr} {Ag:Value} {Dl:Value} {Ah:Value} {Ai:Value} {v9:Value} {Dm:Value} {wg:Value} {Dn:Value} {pQ:Value} {xQ:Value} {Aj:Value} {jA:Addr} {fJ:Addr} {uR:Addr} {rN:Addr} {oF:Addr} {rO:Addr} {uT:Addr} {tL:Addr} {rP:Addr} {YB:Addr} {ab2 ab3 Z9 ab4 T3 ab5:Value} {ab6 ab7:Option Addr} {aac:Array (Option Value)} (KX:K.In h) (G:h.Ns mainGlobals mg) (hmg:mg "law" = some (.ref fa))
  (Le:PySem.W.nsIn K mainGlobals "bool" = some none)
  (tM:PySem.W.nsIn K mainGlobals "enumerate" = some none)
  (Qz:PySem.W.nsIn K mainGlobals "int" = some none)
  (qg:PySem.W.nsIn K mainGlobals "isinstance" = some none)
  (QC:PySem.W.nsIn K mainGlobals "len" = some none)
  (Lf:PySem.W.nsIn K mainGlobals "list" = some none)
  (QD:PySem.W.nsIn K mainGlobals "min" = some none)
  (Hg:PySem.W.nsIn K mainGlobals "range" = some none)
  (QF:PySem.W.nsIn K mainGlobals "set" = some none)
  (Cy:PySem.W.nsIn K mainGlobals "sorted" = some none)
  (QH:PySem.W.nsIn K mainGlobals "str" = some none)
  (QJ:PySem.W.nsIn K mainGlobals "sum" = some none)
  (Hh:PySem.W.nsIn K mainGlobals "tuple" = some none)
  (qj:PySem.W.nsIn K mainGlobals "LEAST_BASE" = some (some Ag))
  (ql:∃ t,Ag=.int (2) t)
  (tO:PySem.W.nsIn K mainGlobals "MOST_BASE" = some (some Dl))
  (tQ:∃ t,Dl=.int (16) t)
  (qm:PySem.W.nsIn K mainGlobals "MOST_BOOKS" = some (some Ah))
  (qp:∃ t,Ah=.int (20) t)
  (qu:PySem.W.nsIn K mainGlobals "MOST_BOUND" = some (some Ai))
  (qw:∃ t,Ai=.int (451) t)
  (lE:PySem.W.nsIn K mainGlobals "MOST_COUNTED" = some (some v9))
  (lF:∃ t,v9=.int (20) t)
  (tR:PySem.W.nsIn K mainGlobals "MOST_FALL" = some (some Dm))
  (tU:∃ t,Dm=.int (1000) t)
  (lG:PySem.W.nsIn K mainGlobals "MOST_FIGURES" = some (some wg))
  (lH:∃ t,wg=.int (1001) t)
  (tV:PySem.W.nsIn K mainGlobals "MOST_KEPT" = some (some Dn))
  (tW:∃ t,Dn=.int (200) t)
  (ig:PySem.W.nsIn K mainGlobals "MOST_ONE_BY_ONE" = some (some pQ))
  (iu:∃ t,pQ=.int (3000) t)
  (oG:PySem.W.nsIn K mainGlobals "MOST_TARGET" = some (some xQ))
  (oH:∃ t,xQ=.int (1000) t)
  (qx:PySem.W.nsIn K mainGlobals "MOST_WORTH" = some (some Aj))
  (qy:∃ t,Aj=.int (50) t)
  (dU:PySem.W.nsIn K mainGlobals "counts_below_counts" = some (some (.ref jA)))
  (dW:PySem.W.nsIn K mainGlobals "counts_below" = some (some (.ref jA)))
  (cR:PySem.W.nsIn K mainGlobals "counts_one_by_one_counts" = some (some (.ref fJ)))
  (cT:PySem.W.nsIn K mainGlobals "counts_one_by_one" = some (some (.ref fJ)))
  (jL:PySem.W.nsIn K mainGlobals "ring_of_walks" = some (some (.ref uR)))
  (jM:PySem.W.nsIn K mainGlobals "ring_of" = some (some (.ref uR)))
  (ji:PySem.W.nsIn K mainGlobals "rings_of_walks" = some (some (.ref rN)))
  (jk:PySem.W.nsIn K mainGlobals "rings_of" = some (some (.ref rN)))
  (f9:PySem.W.nsIn K mainGlobals "spread_of_counts" = some (some (.ref oF)))
  (gj:PySem.W.nsIn K mainGlobals "spread_of" = some (some (.ref oF)))
  (jl:PySem.W.nsIn K mainGlobals "sums_to_leasts" = some (some (.ref rO)))
  (jm:PySem.W.nsIn K mainGlobals "sums_to" = some (some (.ref rO)))
  (jN:PySem.W.nsIn K mainGlobals "walk_of_walks" = some (some (.ref uT)))
  (jO:PySem.W.nsIn K mainGlobals "walk_of" = some (some (.ref uT)))
  (Ak:PySem.W.nsIn K mainGlobals "Book" = some (some (.ref tL)))
  (Lg:PySem.W.plainGet K tL Str.empty=true)
  (Lh:PySem.W.hasDictIn K tL=true)
  (Li:PySem.W.plainOver K tL=true)
  (Lj:PySem.W.findIn K (.ref tL) "__setattr__" = some (some (.builtin "object.__setattr__")))
  (Al:PySem.W.nsIn K mainGlobals "House" = some (some (.ref rP)))
  (Hi:PySem.W.plainGet K rP Str.empty=true)
  (Hj:PySem.W.hasDictIn K rP=true)
  (Hl:PySem.W.plainOver K rP=true)
  (Ho:PySem.W.findIn K (.ref rP) "__setattr__" = some (some (.builtin "object.__setattr__")))
  (tX:PySem.W.findIn K (.ref tL) "told" = some none)
  (oJ:PySem.W.findIn K (.ref tL) "worths" = some none)
  (oK:PySem.W.findIn K (.ref rP) "books" = some none)
  (tY:aN K mg "_law_whole" mD ["_law_found"])
  (yF:aN K mg "_law_row" sI ["_law_found","_law_due"])
  (lJ:MethAt K "House" "book_of" "House.book_of" gC ["self","name"])
  (jo:MethAt K "House" "worths_of" "House.worths_of" eF ["self","name"])
  (wj:aN K mg "_law_fall" o9 ["_law_row_here","_law_number"])
  (tZ:aN K mg "_law_homes" mF ["_law_row_here","_law_top"])
  (qz:aN K mg "_law_leasts" jU ["_law_row_here"])
  (qC:aN K mg "_law_firsts" jV ["_law_found"])
  (jq:aN K mg "_law_alike" fO ["_law_one","_law_other"])
  (jr:aN K mg "_law_spoil" fQ ["_law_found"])
  (kh:aN K mg "_law_copy" iC ["_law_found"])
  (uc:aN K mg "fewest_for" mH ["table","worths","total"])
  (yG:aN K mg "table_to" sJ ["worths","target"])
  (oM:aN K mg "check_target" iV ["target"])
  (qF:aN K mg "check_worth" jX ["worth"])
  (ud:aN K mg "check_base" mJ ["base"])
  (oN:aN K mg "check_worths" iW ["worths"])
  (Cz:aN K mg "sums_to" wJ ["worths","target"])
  (uf:aN K mg "lengthened" mK ["tally","worths"])
  (Hq:aN K mg "spread" zF ["worths","length"])
  (oO:aN K mg "check_length" iY ["length"])
  (wk:aN K mg "spread_of" pq ["worths","length"])
  (qG:aN K mg "least_first" jY ["ring"])
  (qH:aN K mg "taken_apart" jZ ["number","base"])
  (Hr:aN K mg "fallen" zG ["worths","number"])
  (QK:aN K mg "fits" KR ["number","base"])
  (oR:aN K mg "check_number" iZ ["number","base"])
  (CG:aN K mg "walk_of" wK ["worths","number"])
  (CJ:aN K mg "ring_of" wL ["worths","number"])
  (yH:aN K mg "bound_of" sS ["worths"])
  (yI:aN K mg "rings_of" sU ["worths"])
  (qI:aN K mg "check_limit" j4 ["limit","most"])
  (gk:aN K mg "counts_one_by_one" dF ["worths","limit"])
  (yJ:aN K mg "add_each" sV ["tally","ahead","worths"])
  (qJ:aN K mg "tally_below" j5 ["worths","limit"])
  (qK:aN K mg "ring_places" j6 ["worths"])
  (jt:aN K mg "first_uncounted" eG ["base"])
  (oU:aN K mg "counts_below" jc ["worths","limit"])
  (wu:aN K mg "_law_told" pB ["_law_which","_law_row_here","_law_number","_law_length"])
  (jP:MethAt K "House" "tellings" "House.tellings" fU ["self","name"])
  (qL:MethAt K "House" "names" "House.names" j7 ["self"])
  (lK:MethAt K "House" "sums_to" "House.sums_to" gF ["self","name","target"])
  (ju:MethAt K "House" "spread_of" "House.spread_of" eN ["self","name","length"])
  (cZ:MethAt K "House" "counts_one_by_one" "House.counts_one_by_one" cC ["self","name","limit"])
  (fK:MethAt K "House" "counts_below" "House.counts_below" dh ["self","name","limit"])
  (jQ:MethAt K "House" "rings_of" "House.rings_of" fV ["self","name"])
  (lM:MethAt K "House" "ring_of" "House.ring_of" gG ["self","name","number"])
  (lN:MethAt K "House" "walk_of" "House.walk_of" gH ["self","name","number"])
  (lO:aN K mg "_law_by_house" gJ ["_law_house","_law_which","_law_number","_law_length"])
  (CK:aN K mg "_law_at" wM ["_law_script","_law_k"])
  (wz:aN K mg "_law_same" pH ["_law_handed","_law_row_here"])
  (lQ:aN K mg "check_figures" gK ["row","base"])
  (ug:MethAt K "House" "tell" "House.tell" mR ["self","name","figure","worth"])
  (lR:xW K "Book" "Book.__init__" gM ["self","worths"])
  (uh:MethAt K "House" "keep" "House.keep" mU ["self","name","worths"])
  (jR:xW K "House" "House.__init__" fW ["self"])
  (um:aN K mg "_law_mixed" mV ["_law_cell","_law_place"])
  (wA:aN K mg "_law_book" pL ["_law_script","_law_k"])
  (YC:PySem.W.nsIn K mainGlobals "law" = some (some (.ref YB)))
  (YD:K.lookup YB=some ⟨ab2,ab6,.func (PySem.W.fnOf "law" "law" (defArgs GQ) (defBody GQ) (defScope GQ) .none ab3 Z9 ab4 ab7 T3 ab5),aac⟩)
  (QL:PySem.W.codeIn K T3 "law" = true)
  (QM:PySem.W.keepIn K (.ref YB)=true) :
  ∃ fd:FuncData,(∀ (s:Shared) (v:Value),BindsTo s fd ⟨[v],[]⟩ [("_law_script",v)])∧∀ base:Heap,K.In base→base.Ns mainGlobals mg→FnOk P w K mg base CX0 10 fa fd ["_law_script"] (Qp K):=by
 have T:Txt mg:=Txt.mk (PySem.W.mg_none_of KX G Le) (PySem.W.mg_none_of KX G tM) (PySem.W.mg_none_of KX G Qz) (PySem.W.mg_none_of KX G qg) (PySem.W.mg_none_of KX G QC) (PySem.W.mg_none_of KX G Lf) (PySem.W.mg_none_of KX G QD) (PySem.W.mg_none_of KX G Hg) (PySem.W.mg_none_of KX G QF) (PySem.W.mg_none_of KX G Cy) (PySem.W.mg_none_of KX G QH) (PySem.W.mg_none_of KX G QJ) (PySem.W.mg_none_of KX G Hh) (L2.u6 (PySem.W.mg_of KX G qj) ql) (L2.u6 (PySem.W.mg_of KX G tO) tQ) (L2.u6 (PySem.W.mg_of KX G qm) qp) (L2.u6 (PySem.W.mg_of KX G qu) qw) (L2.u6 (PySem.W.mg_of KX G lE) lF) (L2.u6 (PySem.W.mg_of KX G tR) tU) (L2.u6 (PySem.W.mg_of KX G lG) lH) (L2.u6 (PySem.W.mg_of KX G tV) tW) (L2.u6 (PySem.W.mg_of KX G ig) iu) (L2.u6 (PySem.W.mg_of KX G oG) oH) (L2.u6 (PySem.W.mg_of KX G qx) qy) ((PySem.W.mg_of KX G dU).trans (PySem.W.mg_of KX G dW).symm) ((PySem.W.mg_of KX G cR).trans (PySem.W.mg_of KX G cT).symm) ((PySem.W.mg_of KX G jL).trans (PySem.W.mg_of KX G jM).symm) ((PySem.W.mg_of KX G ji).trans (PySem.W.mg_of KX G jk).symm) ((PySem.W.mg_of KX G f9).trans (PySem.W.mg_of KX G gj).symm) ((PySem.W.mg_of KX G jl).trans (PySem.W.mg_of KX G jm).symm) ((PySem.W.mg_of KX G jN).trans (PySem.W.mg_of KX G jO).symm)
 have bB:ClsAt K mg "Book":=MN KX G Ak Lg Lh Li Lj
 have aL:ClsAt K mg "House":=MN KX G Al Hi Hj Hl Ho
 have cL:oW K "Book" "told":=Kd Ak tX
 have aJ:oW K "Book" "worths":=Kd Ak oJ
 have bA:oW K "House" "books":=Kd Al oK
 refine L2.abp (st:=GQ) KX G hmg YC YD QL QM (fun s v=>.of_eq rfl) ?_
 intro base fd F
 have aU:=Ij (P:=P) (w:=w) (base:=base) T tY 
 have jJ:=Om (P:=P) (w:=w) (base:=base) T yF aU
 have aH:=Cd (P:=P) (w:=w) (base:=base) T lJ aL bA 
 have bM:=yx (P:=P) (w:=w) (base:=base) T jo bB aL aJ aH
 have vX:=K6 (P:=P) (w:=w) (base:=base) T wj 
 have tD:=Ik (P:=P) (w:=w) (base:=base) T tZ vX
 have qd:=GX (P:=P) (w:=w) (base:=base) T qz tD
 have qe:=GZ (P:=P) (w:=w) (base:=base) T qC 
 have kO:=Ce (P:=P) (w:=w) (base:=base) T jq aU
 have kW:=Cg (P:=P) (w:=w) (base:=base) T jq kO aU
 have lC:=Ci (P:=P) (w:=w) (base:=base) T jq kW aU
 have kY:=Cj (P:=P) (w:=w) (base:=base) T jr 
 have kZ:=Ck (P:=P) (w:=w) (base:=base) T jr kY
 have gP:=Cm (P:=P) (w:=w) (base:=base) T jr kZ
 have je:=Eh (P:=P) (w:=w) (base:=base) T kh 
 have jf:=Ei (P:=P) (w:=w) (base:=base) T kh je
 have oE:=Ej (P:=P) (w:=w) (base:=base) T kh jf
 have tE:=Il (P:=P) (w:=w) (base:=base) T uc 
 have yC:=Oo (P:=P) (w:=w) (base:=base) T yG tE
 have n6:=Ek (P:=P) (w:=w) (base:=base) T oM 
 have dZ:=G3 (P:=P) (w:=w) (base:=base) T qF 
 have tG:=Im (P:=P) (w:=w) (base:=base) T ud 
 have aR:=El (P:=P) (w:=w) (base:=base) T oN dZ tG
 have mZ:=Qs (P:=P) (w:=w) (base:=base) T Cz yC n6 aR
 have dR:=Io (P:=P) (w:=w) (base:=base) T uf 
 have G4:=U6 (P:=P) (w:=w) (base:=base) T Hq dR
 have n8:=Em (P:=P) (w:=w) (base:=base) T oO 
 have iG:=K7 (P:=P) (w:=w) (base:=base) T wk G4 n8 aR
 have pZ:=G5 (P:=P) (w:=w) (base:=base) T qG 
 have d7:=G6 (P:=P) (w:=w) (base:=base) T qH 
 have cW:=U7 (P:=P) (w:=w) (base:=base) T Hr d7
 have Qt:=Z2 (P:=P) (w:=w) (base:=base) T QK 
 have oh:=En (P:=P) (w:=w) (base:=base) T oR Qt
 have fX:=Qu (P:=P) (w:=w) (base:=base) T CG cW oh aR
 have cI:=Qv (P:=P) (w:=w) (base:=base) T CJ pZ cW fX
 have jF:=Oq (P:=P) (w:=w) (base:=base) T yH cW aR
 have bU:=Ot (P:=P) (w:=w) (base:=base) T yI cI cW jF
 have d8:=G7 (P:=P) (w:=w) (base:=base) T qI 
 have cA:=vY (P:=P) (w:=w) (base:=base) T gk cI bU d8 aR
 have ou:=Ou (P:=P) (w:=w) (base:=base) T yJ 
 have p7:=G8 (P:=P) (w:=w) (base:=base) T qJ ou dR d7
 have p8:=G9 (P:=P) (w:=w) (base:=base) T qK cW cI jF bU
 have jg:=yD (P:=P) (w:=w) (base:=base) T jt 
 have dM:=Eo (P:=P) (w:=w) (base:=base) T oU p7 p8 bU d8 jg aR
 have vZ:=K9 (P:=P) (w:=w) (base:=base) T wu mZ iG cA dM bU cI fX
 have jG:=Ac (P:=P) (w:=w) (base:=base) T jP bB aL cL aH
 have qb:=Hf (P:=P) (w:=w) (base:=base) T qL aL bA 
 have lg:=Cp (P:=P) (w:=w) (base:=base) T lK bB aL aJ mZ aH
 have jh:=yE (P:=P) (w:=w) (base:=base) T ju bB aL aJ iG aH
 have cY:=oA (P:=P) (w:=w) (base:=base) T cZ bB aL aJ cA aH
 have fH:=uX (P:=P) (w:=w) (base:=base) T fK bB aL aJ dM aH
 have jH:=Ae (P:=P) (w:=w) (base:=base) T jQ bB aL aJ bU aH
 have lq:=Cq (P:=P) (w:=w) (base:=base) T lM bB aL aJ cI aH
 have lu:=Cr (P:=P) (w:=w) (base:=base) T lN bB aL aJ fX aH
 have lD:=Cu (P:=P) (w:=w) (base:=base) T lO aL jG bM qb lg jh cY fH jH lq lu
 have dN:=Qw (P:=P) (w:=w) (base:=base) T CK 
 have v7:=Lb (P:=P) (w:=w) (base:=base) T wz aU
 have lA:=Cv (P:=P) (w:=w) (base:=base) T lQ 
 have tK:=Ip (P:=P) (w:=w) (base:=base) T ug bB aL cL aJ dZ lA aH
 have lB:=Cw (P:=P) (w:=w) (base:=base) T lR bB cL aJ 
 have mW:=Ir (P:=P) (w:=w) (base:=base) T uh bB aL bA lB aR
 have jK:=Af (P:=P) (w:=w) (base:=base) T jR aL bA 
 have tH:=Iu (P:=P) (w:=w) (base:=base) T um 
 have v8:=Ld (P:=P) (w:=w) (base:=base) T wA tH dN
 exact ab0 T F aL jJ bM qd qe lC gP oE vZ lD dN v7 tK mW jK v8
end My
namespace PySem.W.Fast
def tw10034941700352806923:=0
def tw10049383499385900835:=0
def tw10064524148185000606:=0
def tw10084551808937199242:=0
def tw10089197083616560446:=0
def tw10175028569850418290:=0
def tw10183265247946027066:=0
def tw10199932775141798157:=0
def tw10214519968085451414:=0
def tw10217782473011127146:=0
def tw10247531686323516371:=0
def tw10305231332386288578:=0
def tw10362482842701193245:=0
def tw10370430600511500702:=0
def tw10382421554163442963:=0
def tw10406484402023216185:=0
def tw10434717606505145913:=0
def tw10455156767619827937:=0
def tw10478233169342319570:=0
def tw10534531223300152546:=0
def tw10551773459152754089:=0
def tw1058415117126352827:=0
def tw10615585227478274187:=0
def tw10622420799079434793:=0
def tw10636183233012822687:=0
def tw10664701594481065818:=0
def tw10705912158208628590:=0
def tw10716880663163479777:=0
def tw107202364907309988:=0
def tw10723190082210634408:=0
def tw10750453407775759926:=0
def tw10890249480616320272:=0
def tw10931626558886387542:=0
def tw10938601707579904430:=0
def tw10948055291943426137:=0
def tw10960309459113439190:=0
def tw10984963589183840420:=0
def tw110129670629958378:=0
def tw1110301502061023213:=0
def tw11106936633939238965:=0
def tw11157406288408651359:=0
def tw11186872610076064510:=0
def tw11219733793341953511:=0
def tw11282148702380474641:=0
def tw11320995870090911838:=0
def tw11349276629297083729:=0
def tw11390023942422762991:=0
def tw11416611439690329105:=0
def tw1142712091574878963:=0
def tw11533650157757998747:=0
def tw11546730933206853444:=0
def tw11552389288359541548:=0
def tw1158457352190291489:=0
def tw1159941813124304808:=0
def tw1163509753613838129:=0
def tw11654018442066705179:=0
def tw11654211432565139037:=0
def tw11675794837736568236:=0
def tw11679216444306458797:=0
def tw11725818219394704223:=0
def tw11731562933484524502:=0
def tw1174841771455178187:=0
def tw11759960610702353013:=0
def tw11760912275355935417:=0
def tw11818133906370357410:=0
def tw11819272098243993160:=0
def tw11849764940817711718:=0
def tw11851759713714735898:=0
def tw11865384999001033267:=0
def tw11876205632318933682:=0
def tw11923097791685523528:=0
def tw11986366228868106210:=0
def tw1199729889229110711:=0
def tw1203572929012369109:=0
def tw12035907088340936100:=0
def tw12077346257543016703:=0
def tw12108342195872300599:=0
def tw12145439606972793132:=0
def tw12151046359480041372:=0
def tw1219863299361935675:=0
def tw12206242038830950269:=0
def tw12233523829606635146:=0
def tw12249523956479046931:=0
def tw1227914321956576839:=0
def tw12294364607725481886:=0
def tw12326586370183230214:=0
def tw1236714627079715428:=0
def tw12397015205961927476:=0
def tw12460795182520761810:=0
def tw12489937239222353217:=0
def tw12489966742212522743:=0
def tw12587280172339916233:=0
def tw12637093929903243561:=0
def tw12638615685121588313:=0
def tw12677692348123069796:=0
def tw12745939433420572970:=0
def tw12789526899737663391:=0
def tw12790267152641654364:=0
def tw12837868656907946820:=0
def tw12895550469340528435:=0
def tw12919693378147022447:=0
def tw12923037908295569259:=0
def tw1299382024127033246:=0
def tw13025019534924568951:=0
def tw13039539422118111545:=0
def tw13054070808844630931:=0
def tw13083013198622228490:=0
def tw13186175701098740456:=0
def tw13189660293889973648:=0
def tw13190710008881888307:=0
def tw13223313147204902344:=0
def tw13239865543646865671:=0
def tw13262171781036615167:=0
def tw13265298383930313897:=0
def tw13295900909380816429:=0
def tw13296191813236213634:=0
def tw13347837137280586391:=0
def tw13362770564015312126:=0
def tw13366674386963915224:=0
def tw13384111847747104133:=0
def tw13419177316052703374:=0
def tw13435245646977074406:=0
def tw1347077851528985672:=0
def tw13472564040793424256:=0
def tw13483721824266497465:=0
def tw13512465679642554879:=0
def tw13520164140732072010:=0
def tw13530875811979238206:=0
def tw13597068861536375487:=0
def tw13610091068427527844:=0
def tw13662835392138356363:=0
def tw13684773295802200361:=0
def tw13697343700687365674:=0
def tw13732743372234376249:=0
def tw13772600035322362509:=0
def tw13797354292036537846:=0
def tw13800329902929084378:=0
def tw13822866557291264046:=0
def tw13823484294897134009:=0
def tw13865620345533879844:=0
def tw13872475977473005908:=0
def tw13890894544145034969:=0
def tw13891956270870839253:=0
def tw13908215861485798774:=0
def tw13931231621370101848:=0
def tw13932154079318133929:=0
def tw13933461709902425593:=0
def tw13938466606012714162:=0
def tw13946297036423928571:=0
def tw13965545884044845787:=0
def tw13981127949187035258:=0
def tw14002606398323166136:=0
def tw1401874903729820470:=0
def tw14029899625963507656:=0
def tw14030821111172430273:=0
def tw14037216547698808024:=0
def tw14044377785811469559:=0
def tw14077641710232530873:=0
def tw14102575964562431827:=0
def tw14133988992733529489:=0
def tw14139984256091275157:=0
def tw14154224449439447959:=0
def tw1415865127440066726:=0
def tw14169265471707437726:=0
def tw14218812761075891957:=0
def tw1428963032693477278:=0
def tw14301644177775831551:=0
def tw14356994470745982495:=0
def tw14447876578908673706:=0
def tw1445644525153768970:=0
def tw1451313052185029620:=0
def tw14558648012092765118:=0
def tw14583766744808298864:=0
def tw14651728854747738721:=0
def tw1465722082491872944:=0
def tw14671766510462618749:=0
def tw14688546218164048132:=0
def tw14701376735988036949:=0
def tw14708502703467416634:=0
def tw14754239641533245212:=0
def tw14803481472330661744:=0
def tw1481947033485538885:=0
def tw14823986029378232448:=0
def tw14845415656070188155:=0
def tw14852831438201710381:=0
def tw14871867755114002058:=0
def tw14880533430640561869:=0
def tw14897800587961917375:=0
def tw14911416478392880331:=0
def tw14943180839413629567:=0
def tw149472692449358764:=0
def tw15018256179447071708:=0
def tw15019670340184297633:=0
def tw15026228873255681082:=0
def tw15055039416071837176:=0
def tw1505877263237682021:=0
def tw1508268035729352415:=0
def tw15108709182242219238:=0
def tw15114687499805150798:=0
def tw15133817986219428329:=0
def tw15157551579394313752:=0
def tw15181671779872525813:=0
def tw15208113870223388323:=0
def tw15208556159286450679:=0
def tw15220352277710201030:=0
def tw15221249495896189602:=0
def tw15251483737058878262:=0
def tw15261637720991261674:=0
def tw15273891427350178518:=0
def tw15297438111888060960:=0
def tw15305643921607056294:=0
def tw1533024776159692880:=0
def tw15345142826767494857:=0
def tw15362330411826909435:=0
def tw15375758568244397408:=0
def tw15377172424877595070:=0
def tw15384567918347557940:=0
def tw15407793810720238713:=0
def tw15420203410220438393:=0
def tw15427794003627453177:=0
def tw15517294197831875032:=0
def tw15551895170770382468:=0
def tw1556936424788053322:=0
def tw15598040937684490919:=0
def tw15598235197034620747:=0
def tw15609432490278905465:=0
def tw15609985011466919118:=0
def tw15624017768906814280:=0
def tw15679108171758882906:=0
def tw15693124935843299559:=0
def tw15702541582824496341:=0
def tw15715628024562684140:=0
def tw15748003317294796383:=0
def tw15770881295298417597:=0
def tw15799322215816487226:=0
def tw15886452258655011802:=0
def tw15892764776138135795:=0
def tw15904735494588681736:=0
def tw15927491685604859999:=0
def tw15929962454228425972:=0
def tw15950170684874724460:=0
def tw15963928085418244838:=0
def tw1596568917839006113:=0
def tw1598046057679369876:=0
def tw16035282813541537190:=0
def tw16040217997619683562:=0
def tw16068487768428728137:=0
def tw16091523685022791317:=0
def tw1609349762358981174:=0
def tw16143669552483354043:=0
def tw16153148364147183247:=0
def tw16170335921471255909:=0
def tw1620153120363107054:=0
def tw16285008530397813555:=0
def tw16292358311969845590:=0
def tw16308758726098888184:=0
def tw16327578178209513533:=0
def tw16342035951593679948:=0
def tw16348585529908251381:=0
def tw1639113804762369491:=0
def tw16453695736354075768:=0
def tw1647716464141761224:=0
def tw16484124005123876981:=0
def tw16484398093405637759:=0
def tw16485616209492207560:=0
def tw1649194755320671965:=0
def tw16512016430886035126:=0
def tw16561682192732444435:=0
def tw16607570504656637996:=0
def tw16687131431202505492:=0
def tw16727205953650726667:=0
def tw16740628000537653395:=0
def tw1674345953061722289:=0
def tw16768130056834367832:=0
def tw16773119719864104460:=0
def tw16780890606164794187:=0
def tw16782727607311921634:=0
def tw1682523266452473291:=0
def tw16839019594547607315:=0
def tw1688004966205879157:=0
def tw16902822537712826553:=0
def tw16942514132622507566:=0
def tw16950146536669006831:=0
def tw16984370176041773555:=0
def tw1699827599307057743:=0
def tw17025917551906470056:=0
def tw17071221574328189743:=0
def tw17088125731646860947:=0
def tw17103854592984305998:=0
def tw17114109060003000136:=0
def tw17124396804571899024:=0
def tw17139901938746396210:=0
def tw17140063866663402797:=0
def tw17195886602081613914:=0
def tw17196485562213275516:=0
def tw17197341218595845144:=0
def tw17233356319478608903:=0
def tw17257475638385641813:=0
def tw17276666855911650539:=0
def tw17292379771309154738:=0
def tw17301541136276797343:=0
def tw17387344347742371089:=0
def tw17431164972154290117:=0
def tw17465639224984887185:=0
def tw17466484392225730677:=0
def tw17472395498205366893:=0
def tw17484822251261554748:=0
def tw17537529655727485377:=0
def tw17565841557276741248:=0
def tw17569570360350861419:=0
def tw17578659081302241037:=0
def tw17603838689718665559:=0
def tw17611412727749749015:=0
def tw17618674829841820338:=0
def tw17701221689358184097:=0
def tw17742601529933269580:=0
def tw17753496052682711931:=0
def tw17815642267597496864:=0
def tw17819383286377477063:=0
def tw17825443136563687182:=0
def tw17825542765885802237:=0
def tw17867108481386847615:=0
def tw17890196603957762681:=0
def tw17890605919607289124:=0
def tw17915940065016602061:=0
def tw17919808899625593184:=0
def tw17951921232093907981:=0
def tw1797861955398692436:=0
def tw180015520785458064:=0
def tw1800438941939457598:=0
def tw18019014265394310069:=0
def tw18021566940670521492:=0
def tw18033463499044536626:=0
def tw18041389407853989779:=0
def tw18066295678776358750:=0
def tw18072841971421173175:=0
def tw18155625226682631484:=0
def tw18197113071048888436:=0
def tw1826980180590031143:=0
def tw1828687942616164726:=0
def tw18356296175371380385:=0
def tw18366737429148609615:=0
def tw18374188825118461533:=0
def tw18404899341514185425:=0
def tw18431945778110004462:=0
def tw189220856303565021:=0
def tw1912865654719500135:=0
def tw191424926984040292:=0
def tw2016427715268354054:=0
def tw2051150395009707217:=0
def tw2071583726661052799:=0
def tw2102440628976159514:=0
def tw2108828101669026012:=0
def tw2168930636060400978:=0
def tw2174895665517404686:=0
def tw2186768430844555104:=0
def tw2220121778482504875:=0
def tw2220248037767070773:=0
def tw2255134751646513479:=0
def tw2381211164657916162:=0
def tw2470858333442288359:=0
def tw2507351505528972218:=0
def tw2509150333146894695:=0
def tw2530530439633692627:=0
def tw2535895431076793102:=0
def tw2553190935198493014:=0
def tw255517927721732785:=0
def tw2573979096831255780:=0
def tw2578521063014295877:=0
def tw2590404241457474467:=0
def tw2593816701036876778:=0
def tw2623475820574677350:=0
def tw2623537665228410499:=0
def tw2641267987895676195:=0
def tw2643150513024095861:=0
def tw2687315778748342920:=0
def tw2694240660684951984:=0
def tw2697271068416355142:=0
def tw2703725802427273607:=0
def tw2716410329773939885:=0
def tw2811349889760561535:=0
def tw2880828926878180591:=0
def tw2941365263296572328:=0
def tw2954132507552232967:=0
def tw2954183254734294690:=0
def tw2980121432769793988:=0
def tw298126970600763735:=0
def tw2994878636382578874:=0
def tw3023355871242963224:=0
def tw3029634239294718606:=0
def tw3047612849556970333:=0
def tw3094270550298251137:=0
def tw3117074256445798750:=0
def tw3184618836018762981:=0
def tw3207224481958301592:=0
def tw3233070314867660600:=0
def tw3256374946751141215:=0
def tw3283737832034731210:=0
def tw3297170725251686666:=0
def tw3307233350753203178:=0
def tw3318465595825965508:=0
def tw3328045176728781526:=0
def tw3329194052434019760:=0
def tw3330656978854350045:=0
def tw3365498769212528158:=0
def tw3453866408615778352:=0
def tw3465897055087470625:=0
def tw351934007571517635:=0
def tw3520780888367032332:=0
def tw3529695107499914488:=0
def tw3535752076186566972:=0
def tw35540154637900793:=0
def tw3604399783632839858:=0
def tw3689359568517328903:=0
def tw371511230140646228:=0
def tw3726071826415257945:=0
def tw3731369670724620660:=0
def tw3752605680591875890:=0
def tw3753653358337138090:=0
def tw3794215326230018701:=0
def tw3879654960269597295:=0
def tw3891297138668216004:=0
def tw3894895280030086573:=0
def tw3927658086269295313:=0
def tw3944194283481451503:=0
def tw3951634671160393003:=0
def tw3956607388689106319:=0
def tw3980453620978879367:=0
def tw3992464760416855425:=0
def tw4007801403468539158:=0
def tw4053911594875131278:=0
def tw4071380251218684187:=0
def tw4168197752330780412:=0
def tw4182206006311154575:=0
def tw4184523953562279704:=0
def tw4200980151908557452:=0
def tw4205381332494296954:=0
def tw4318188541678019316:=0
def tw4320360749673674920:=0
def tw4337244531314473079:=0
def tw4347220794313281158:=0
def tw4395046367323535241:=0
def tw4395729752319607598:=0
def tw4519180152402936276:=0
def tw4570029696131753943:=0
def tw4587038570684934653:=0
def tw4665716871556547436:=0
def tw4666813497149257593:=0
def tw4695980747193212113:=0
def tw4698245874656311542:=0
def tw4725498872927932372:=0
def tw4789490484805631497:=0
def tw4793837754612238319:=0
def tw4828044215592412164:=0
def tw4831743074217657852:=0
def tw4870941632172293850:=0
def tw4945766389187209606:=0
def tw4961333034318910023:=0
def tw4973008400522264383:=0
def tw5055105469503548612:=0
def tw5058905141552694138:=0
def tw5074604636900655708:=0
def tw5091269443069230217:=0
def tw5106453941372561329:=0
def tw5109446583812338135:=0
def tw5124489736507598538:=0
def tw5130726008084997080:=0
def tw5155545416615217688:=0
def tw5188612024951804515:=0
def tw5189885883983513404:=0
def tw5219493879340964474:=0
def tw5228479559202874019:=0
def tw5261176376101965043:=0
def tw5387783518886020492:=0
def tw5437737226581369687:=0
def tw5445603564219532397:=0
def tw5451991262021669226:=0
def tw5498398751675556578:=0
def tw5500335090724457621:=0
def tw5501988179689179147:=0
def tw5520603589308368763:=0
def tw5568123227356543840:=0
def tw5572653961225742295:=0
def tw5584893119392550382:=0
def tw5626378097557811562:=0
def tw5653784996756562868:=0
def tw5662666527099730623:=0
def tw5670906881937630789:=0
def tw5693991357018833261:=0
def tw5719981610298791756:=0
def tw574015208122015629:=0
def tw5740329261155203903:=0
def tw5768709397289946662:=0
def tw5777963085458647496:=0
def tw5800259490369229786:=0
def tw5802692079771597806:=0
def tw5820117070691105498:=0
def tw5840856243732909209:=0
def tw5857718372697961928:=0
def tw5903635165664005994:=0
def tw5909139540721696790:=0
def tw591623095557265343:=0
def tw5937979116832499160:=0
def tw5957939369150234707:=0
def tw5962245151871021030:=0
def tw5979189318589961810:=0
def tw6040466664100125696:=0
def tw6053325053420498174:=0
def tw6057236398551132382:=0
def tw6062115100732448399:=0
def tw6082071100452512637:=0
def tw6105139557572168979:=0
def tw612407894409328510:=0
def tw615927854636131063:=0
def tw6171825554194990160:=0
def tw6184158928092185018:=0
def tw6196221276704417599:=0
def tw623774565681829606:=0
def tw6252136455862938962:=0
def tw6290515471399381234:=0
def tw6309858519998163693:=0
def tw6317971404916844415:=0
def tw6333386709684864154:=0
def tw6351908347065604672:=0
def tw6363434953497115398:=0
def tw6378120506744988751:=0
def tw6430800835409091929:=0
def tw6447567313179609050:=0
def tw6455309649824934928:=0
def tw6467452201342643343:=0
def tw6484216354226370969:=0
def tw6490687805556996791:=0
def tw6519783916212542529:=0
def tw6691368219663725643:=0
def tw670177538196680444:=0
def tw6706858489082767338:=0
def tw6710351281882055952:=0
def tw6732405378989469505:=0
def tw6747172012731915942:=0
def tw6772040982178335395:=0
def tw677546980412855431:=0
def tw679698427169275298:=0
def tw6807383899732515839:=0
def tw6825982707955544373:=0
def tw6843310148216780839:=0
def tw6880904468147672716:=0
def tw6890427853799240827:=0
def tw6952709907264430478:=0
def tw6960799326089996346:=0
def tw699079260334879370:=0
def tw6999418809839841289:=0
def tw7020834809915628764:=0
def tw7056853712167747033:=0
def tw7064032864870439308:=0
def tw707110870460203032:=0
def tw7078665206767584711:=0
def tw7105456932049564144:=0
def tw713195342596498892:=0
def tw7133972355404611309:=0
def tw7148876197022892255:=0
def tw715176503758554469:=0
def tw7208314113709735810:=0
def tw7227021058956506351:=0
def tw7255611345105125421:=0
def tw7267451027471872425:=0
def tw7297315451309281721:=0
def tw7323002014722397864:=0
def tw732481386396539155:=0
def tw735691539531120590:=0
def tw7361598138006273043:=0
def tw7367376877020003012:=0
def tw7393375008181030495:=0
def tw7415238876015766076:=0
def tw7451201597566982858:=0
def tw7456502436365815128:=0
def tw7458132897732701025:=0
def tw7494490802542885709:=0
def tw7495155505992622441:=0
def tw7547044055180056637:=0
def tw7571687535932401577:=0
def tw7577889816961183477:=0
def tw7654306833622969933:=0
def tw7702181730591247655:=0
def tw7736959963259666391:=0
def tw7743770225920667682:=0
def tw7788727366230720282:=0
def tw7849856566952329454:=0
def tw7871107881272900684:=0
def tw791183144910314066:=0
def tw7920164610479676207:=0
def tw7938446029055195297:=0
def tw79906289897093203:=0
def tw8028930000381276913:=0
def tw8034013135163853442:=0
def tw8057049863936626349:=0
def tw8062742698264914417:=0
def tw8111137517677069739:=0
def tw8132316468901038160:=0
def tw8136771148426623864:=0
def tw8192188643603135931:=0
def tw8204889122016015950:=0
def tw8231659058016625238:=0
def tw8240742618687285104:=0
def tw8294194244567771793:=0
def tw8300271826559773176:=0
def tw831279052330129822:=0
def tw8321072394203264806:=0
def tw8335028629365267839:=0
def tw8411711731070719422:=0
def tw8422891802310316818:=0
def tw8474735191346919276:=0
def tw8488030812072237869:=0
def tw8585008929573518007:=0
def tw8586874199916119304:=0
def tw8680629412385024410:=0
def tw8705381292486838198:=0
def tw8711128202450429144:=0
def tw8726746699778579431:=0
def tw8743912649625351790:=0
def tw8751437868653197567:=0
def tw8774728506794881556:=0
def tw8802824892301957097:=0
def tw880284840140538378:=0
def tw8829785834755033832:=0
def tw8851207868878403013:=0
def tw8875081651700532449:=0
def tw8880098798068276294:=0
def tw8885614212801592587:=0
def tw8886951161725248133:=0
def tw8898018038512703651:=0
def tw8932288466408303821:=0
def tw894407914304204397:=0
def tw8947090020799061948:=0
def tw89807092905188159:=0
def tw8998017290986158642:=0
def tw9015982223683638486:=0
def tw9018687180971068305:=0
def tw9030156525075565183:=0
def tw903635610530705114:=0
def tw9066000494865625083:=0
def tw9067991461245384349:=0
def tw9088791878435169284:=0
def tw9110472533245666000:=0
def tw9123139143200620580:=0
def tw9178403609050270422:=0
def tw9186943770991511544:=0
def tw9189889785714882014:=0
def tw9217661463610275078:=0
def tw9274456506992404554:=0
def tw937574864620751465:=0
def tw9396444974748123397:=0
def tw9426343850993711064:=0
def tw9436596293982471218:=0
def tw9474801481782635204:=0
def tw9483936510541271589:=0
def tw9489305841418234442:=0
def tw9493118222999825842:=0
def tw954071955556260590:=0
def tw9567398342466360522:=0
def tw9667700278075300727:=0
def tw9668088591761906099:=0
def tw9677281081859949615:=0
def tw9716990298053498786:=0
def tw9748692577033434964:=0
def tw9811964749173459307:=0
def tw9826906649411083127:=0
def tw9881211310523073028:=0
def tw9883494981672968223:=0
def tw9887407053631223204:=0
def tw9905091055084572332:=0
def tw9927236533419470971:=0
def tw992948448011262086:=0
def tw9936120072021364267:=0
def tw9958580843532938550:=0
def tw9979460198058639176:=0
def tw998368311859515895:=0
end PySem.W.Fast
local macro_rules | `(tactic| walk_at "fa")=>`(tactic| (refine' L2.Wr (by assumption) (by assumption) ?a ?l ?c ?k ?b;(case a=>k_is);(case l=>k_is);(case c=>k_is);(case k=>k_is)))
local macro_rules | `(tactic| walk_at "fm")=>`(tactic| (refine' L2.Zj (by assumption) ?A ?a ?i ?l ?c ?k ?b;(case A=>k_is);(case a=>k_is);(case i=>k_is);(case l=>k_is);(case c=>k_is);(case k=>k_is)))
local macro_rules | `(tactic| walk_at "fi")=>`(tactic| (refine' L2.Zk (by assumption) ?A ?a ?i ?l ?c ?k ?m ?q ?b;(case A=>k_is);(case a=>k_is);(case i=>k_is);(case l=>k_is);(case c=>k_is);(case k=>k_is);(case m=>k_is);(case q=>k_is)))
open PySem PySem.W PyProof.Rows
set_option maxHeartbeats 0 in
theorem PySem.Challenge.cw_figurefall_k24_copies_holds : PySem.Challenge.rw_figurefall_k24_copies.Holds := by
 w_on;o_law;k_head;(case hw=>w_witness2)
 k_fill
 refine L2.VD (l:=PySem.Challenge.rw_figurefall_k24_copies) (n:=63) (k:=10) (x:="_law_script") (CX:=L2.CX0) (sp:=My.Qp) rfl (by decide) rfl ⟨rfl,by decide,by decide⟩ (fun w h Y=>PySem.W.kIn_of Y) ?F ?S ?C
 case S=>exact fun _ _ a ns hl _ hS=>⟨a,ns,rfl,hS,hl,fun _=>rfl⟩
 case C=>exact fun _ _ _ _ z=>z
 case F =>
  intro w mg fa h KX G hmg
  refine' My.all_mk KX G hmg ?Le ?tM ?Qz ?qg ?QC ?Lf ?QD ?Hg ?QF ?Cy ?QH ?QJ ?Hh ?qj ?ql ?tO ?tQ ?qm ?qp ?qu ?qw ?lE ?lF ?tR ?tU ?lG ?lH ?tV ?tW ?ig ?iu ?oG ?oH ?qx ?qy ?dU ?dW ?cR ?cT ?jL ?jM ?ji ?jk ?f9 ?gj ?jl ?jm ?jN ?jO ?Ak ?Lg ?Lh ?Li ?Lj ?Al ?Hi ?Hj ?Hl ?Ho ?tX ?oJ ?oK ?tY ?yF ?lJ ?jo ?wj ?tZ ?qz ?qC ?jq ?jr ?kh ?uc ?yG ?oM ?qF ?ud ?oN ?Cz ?uf ?Hq ?oO ?wk ?qG ?qH ?Hr ?QK ?oR ?CG ?CJ ?yH ?yI ?qI ?gk ?yJ ?qJ ?qK ?jt ?oU ?wu ?jP ?qL ?lK ?ju ?cZ ?fK ?jQ ?lM ?lN ?lO ?CK ?wz ?lQ ?ug ?lR ?uh ?jR ?um ?wA ?YC ?YD ?QL ?QM
  (case Le=>k_is)
  (case tM=>k_is)
  (case Qz=>k_is)
  (case qg=>k_is)
  (case QC=>k_is)
  (case Lf=>k_is)
  (case QD=>k_is)
  (case Hg=>k_is)
  (case QF=>k_is)
  (case Cy=>k_is)
  (case QH=>k_is)
  (case QJ=>k_is)
  (case Hh=>k_is)
  (case qj=>k_is)
  (case ql=>exact ⟨_,rfl⟩)
  (case tO=>k_is)
  (case tQ=>exact ⟨_,rfl⟩)
  (case qm=>k_is)
  (case qp=>exact ⟨_,rfl⟩)
  (case qu=>k_is)
  (case qw=>exact ⟨_,rfl⟩)
  (case lE=>k_is)
  (case lF=>exact ⟨_,rfl⟩)
  (case tR=>k_is)
  (case tU=>exact ⟨_,rfl⟩)
  (case lG=>k_is)
  (case lH=>exact ⟨_,rfl⟩)
  (case tV=>k_is)
  (case tW=>exact ⟨_,rfl⟩)
  (case ig=>k_is)
  (case iu=>exact ⟨_,rfl⟩)
  (case oG=>k_is)
  (case oH=>exact ⟨_,rfl⟩)
  (case qx=>k_is)
  (case qy=>exact ⟨_,rfl⟩)
  (case dU=>k_is)
  (case dW=>k_is)
  (case cR=>k_is)
  (case cT=>k_is)
  (case jL=>k_is)
  (case jM=>k_is)
  (case ji=>k_is)
  (case jk=>k_is)
  (case f9=>k_is)
  (case gj=>k_is)
  (case jl=>k_is)
  (case jm=>k_is)
  (case jN=>k_is)
  (case jO=>k_is)
  (case Ak=>k_is)
  (case Lg=>k_is)
  (case Lh=>k_is)
  (case Li=>k_is)
  (case Lj=>k_is)
  (case Al=>k_is)
  (case Hi=>k_is)
  (case Hj=>k_is)
  (case Hl=>k_is)
  (case Ho=>k_is)
  (case tX=>k_is)
  (case oJ=>k_is)
  (case oK=>k_is)
  (case tY=>walk_at "fa";exact fun _ _ _ _ _ _ us hl=>match us,hl with | [_],_=>rfl)
  (case yF=>walk_at "fa";exact fun _ _ _ _ _ _ us hl=>match us,hl with | [_,_],_=>rfl)
  (case lJ=>walk_at "fm";exact fun _ _ _ _ _ _ us hl=>match us,hl with | [_,_],_=>rfl)
  (case jo=>walk_at "fm";exact fun _ _ _ _ _ _ us hl=>match us,hl with | [_,_],_=>rfl)
  (case wj=>walk_at "fa";exact fun _ _ _ _ _ _ us hl=>match us,hl with | [_,_],_=>rfl)
  (case tZ=>walk_at "fa";exact fun _ _ _ _ _ _ us hl=>match us,hl with | [_,_],_=>rfl)
  (case qz=>walk_at "fa";exact fun _ _ _ _ _ _ us hl=>match us,hl with | [_],_=>rfl)
  (case qC=>walk_at "fa";exact fun _ _ _ _ _ _ us hl=>match us,hl with | [_],_=>rfl)
  (case jq=>walk_at "fa";exact fun _ _ _ _ _ _ us hl=>match us,hl with | [_,_],_=>rfl)
  (case jr=>walk_at "fa";exact fun _ _ _ _ _ _ us hl=>match us,hl with | [_],_=>rfl)
  (case kh=>walk_at "fa";exact fun _ _ _ _ _ _ us hl=>match us,hl with | [_],_=>rfl)
  (case uc=>walk_at "fa";exact fun _ _ _ _ _ _ us hl=>match us,hl with | [_,_,_],_=>rfl)
  (case yG=>walk_at "fa";exact fun _ _ _ _ _ _ us hl=>match us,hl with | [_,_],_=>rfl)
  (case oM=>walk_at "fa";exact fun _ _ _ _ _ _ us hl=>match us,hl with | [_],_=>rfl)
  (case qF=>walk_at "fa";exact fun _ _ _ _ _ _ us hl=>match us,hl with | [_],_=>rfl)
  (case ud=>walk_at "fa";exact fun _ _ _ _ _ _ us hl=>match us,hl with | [_],_=>rfl)
  (case oN=>walk_at "fa";exact fun _ _ _ _ _ _ us hl=>match us,hl with | [_],_=>rfl)
  (case Cz=>walk_at "fa";exact fun _ _ _ _ _ _ us hl=>match us,hl with | [_,_],_=>rfl)
  (case uf=>walk_at "fa";exact fun _ _ _ _ _ _ us hl=>match us,hl with | [_,_],_=>rfl)
  (case Hq=>walk_at "fa";exact fun _ _ _ _ _ _ us hl=>match us,hl with | [_,_],_=>rfl)
  (case oO=>walk_at "fa";exact fun _ _ _ _ _ _ us hl=>match us,hl with | [_],_=>rfl)
  (case wk=>walk_at "fa";exact fun _ _ _ _ _ _ us hl=>match us,hl with | [_,_],_=>rfl)
  (case qG=>walk_at "fa";exact fun _ _ _ _ _ _ us hl=>match us,hl with | [_],_=>rfl)
  (case qH=>walk_at "fa";exact fun _ _ _ _ _ _ us hl=>match us,hl with | [_,_],_=>rfl)
  (case Hr=>walk_at "fa";exact fun _ _ _ _ _ _ us hl=>match us,hl with | [_,_],_=>rfl)
  (case QK=>walk_at "fa";exact fun _ _ _ _ _ _ us hl=>match us,hl with | [_,_],_=>rfl)
  (case oR=>walk_at "fa";exact fun _ _ _ _ _ _ us hl=>match us,hl with | [_,_],_=>rfl)
  (case CG=>walk_at "fa";exact fun _ _ _ _ _ _ us hl=>match us,hl with | [_,_],_=>rfl)
  (case CJ=>walk_at "fa";exact fun _ _ _ _ _ _ us hl=>match us,hl with | [_,_],_=>rfl)
  (case yH=>walk_at "fa";exact fun _ _ _ _ _ _ us hl=>match us,hl with | [_],_=>rfl)
  (case yI=>walk_at "fa";exact fun _ _ _ _ _ _ us hl=>match us,hl with | [_],_=>rfl)
  (case qI=>walk_at "fa";exact fun _ _ _ _ _ _ us hl=>match us,hl with | [_,_],_=>rfl)
  (case gk=>walk_at "fa";exact fun _ _ _ _ _ _ us hl=>match us,hl with | [_,_],_=>rfl)
  (case yJ=>walk_at "fa";exact fun _ _ _ _ _ _ us hl=>match us,hl with | [_,_,_],_=>rfl)
  (case qJ=>walk_at "fa";exact fun _ _ _ _ _ _ us hl=>match us,hl with | [_,_],_=>rfl)
  (case qK=>walk_at "fa";exact fun _ _ _ _ _ _ us hl=>match us,hl with | [_],_=>rfl)
  (case jt=>walk_at "fa";exact fun _ _ _ _ _ _ us hl=>match us,hl with | [_],_=>rfl)
  (case oU=>walk_at "fa";exact fun _ _ _ _ _ _ us hl=>match us,hl with | [_,_],_=>rfl)
  (case wu=>walk_at "fa";exact fun _ _ _ _ _ _ us hl=>match us,hl with | [_,_,_,_],_=>rfl)
  (case jP=>walk_at "fm";exact fun _ _ _ _ _ _ us hl=>match us,hl with | [_,_],_=>rfl)
  (case qL=>walk_at "fm";exact fun _ _ _ _ _ _ us hl=>match us,hl with | [_],_=>rfl)
  (case lK=>walk_at "fm";exact fun _ _ _ _ _ _ us hl=>match us,hl with | [_,_,_],_=>rfl)
  (case ju=>walk_at "fm";exact fun _ _ _ _ _ _ us hl=>match us,hl with | [_,_,_],_=>rfl)
  (case cZ=>walk_at "fm";exact fun _ _ _ _ _ _ us hl=>match us,hl with | [_,_,_],_=>rfl)
  (case fK=>walk_at "fm";exact fun _ _ _ _ _ _ us hl=>match us,hl with | [_,_,_],_=>rfl)
  (case jQ=>walk_at "fm";exact fun _ _ _ _ _ _ us hl=>match us,hl with | [_,_],_=>rfl)
  (case lM=>walk_at "fm";exact fun _ _ _ _ _ _ us hl=>match us,hl with | [_,_,_],_=>rfl)
  (case lN=>walk_at "fm";exact fun _ _ _ _ _ _ us hl=>match us,hl with | [_,_,_],_=>rfl)
  (case lO=>walk_at "fa";exact fun _ _ _ _ _ _ us hl=>match us,hl with | [_,_,_,_],_=>rfl)
  (case CK=>walk_at "fa";exact fun _ _ _ _ _ _ us hl=>match us,hl with | [_,_],_=>rfl)
  (case wz=>walk_at "fa";exact fun _ _ _ _ _ _ us hl=>match us,hl with | [_,_],_=>rfl)
  (case lQ=>walk_at "fa";exact fun _ _ _ _ _ _ us hl=>match us,hl with | [_,_],_=>rfl)
  (case ug=>walk_at "fm";exact fun _ _ _ _ _ _ us hl=>match us,hl with | [_,_,_,_],_=>rfl)
  (case lR=>walk_at "fi";exact fun _ _ _ _ _ _ us hl=>match us,hl with | [_,_],_=>rfl)
  (case uh=>walk_at "fm";exact fun _ _ _ _ _ _ us hl=>match us,hl with | [_,_,_],_=>rfl)
  (case jR=>walk_at "fi";exact fun _ _ _ _ _ _ us hl=>match us,hl with | [_],_=>rfl)
  (case um=>walk_at "fa";exact fun _ _ _ _ _ _ us hl=>match us,hl with | [_,_],_=>rfl)
  (case wA=>walk_at "fa";exact fun _ _ _ _ _ _ us hl=>match us,hl with | [_,_],_=>rfl)
  (case YC=>k_is)
  (case YD=>k_is)
  (case QL=>k_is)
  (case QM=>k_is)
end
