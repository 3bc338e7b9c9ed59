import PyProof.Rows.All
import Wide.All
import OpenK.AllK
import Wide.FinOn
import Lean
import PyProof.EqAt
import PyProof.EqKinds
import PyProof.TupleCall
import PySem.Challenge.RW_blankform_k08_whole_best_filling
theorem zLA.{u} {α:Type u}{as bs:List α}:(as++bs).length=as.length+bs.length:=List.length_append
theorem zLC.{u} {α:Type u}{a:α}{as:List α}:(a::as).length=as.length+1:=rfl
theorem zLN.{u} {α:Type u}:([]:List α).length=0:=rfl
theorem zLM.{u,v} {α:Type u}{β:Type v}{as:List α}(f:α->β):(as.map f).length=as.length:=List.length_map f
set_option Elab.async false
set_option linter.all false
set_option maxRecDepth 100000
namespace L2
open PySem PySem.Spec PyProof.Rows
abbrev Key:=Sum Int Str
def keyIs:Key->Value->Bool
  | .inl k,v=>Value.isInt k v
  | .inr x,v=>Value.isStrOf x v
def keyH (w:World):Key->Int
  | .inl k=>hashInt k
  | .inr x=>hashStr w x
theorem keyIs_shape:∀ {k:Key}{v:Value},keyIs k v=true->(∃ i t,k=Sum.inl i/\v=Value.int i t)\/(∃ x t,k=Sum.inr x/\v=Value.str x t)
  | .inl i,v,h=>by
    obtain ⟨t,e⟩:=Value.isInt_shape (k:=i) (v:=v) h
    exact .inl ⟨i,t,rfl,e⟩
  | .inr x,v,h=>by
    obtain ⟨t,e⟩:=Value.isStrOf_shape (x:=x) (v:=v) h
    exact .inr ⟨x,t,rfl,e⟩
theorem keyIs_int (i:Int) (t:Tok):keyIs (.inl i) (.int i t)=true:=by simp [keyIs,Value.isInt]
theorem keyIs_str (x:Str) (t:Tok):keyIs (.inr x) (.str x t)=true:=by simp [keyIs,Value.isStrOf]
theorem key_ll (a b:Int):decide ((Sum.inl a:Key)=Sum.inl b)=(a==b):=by
  by_cases e:a=b
  · subst e;simp
  · have h:¬ (Sum.inl a:Key)=Sum.inl b:=fun q=>e (Sum.inl.inj q)
    rw [decide_eq_false h]
    exact (beq_eq_false_iff_ne.mpr e).symm
theorem key_rr (a b:Str):decide ((Sum.inr a:Key)=Sum.inr b)=decide (a=b):=by
  by_cases e:a=b
  · subst e;simp
  · have h:¬ (Sum.inr a:Key)=Sum.inr b:=fun q=>e (Sum.inr.inj q)
    rw [decide_eq_false h,decide_eq_false e]
theorem key_lr (a:Int) (b:Str):decide ((Sum.inl a:Key)=Sum.inr b)=false:=decide_eq_false (fun q=>nomatch q)
theorem key_rl (a:Str) (b:Int):decide ((Sum.inr a:Key)=Sum.inl b)=false:=decide_eq_false (fun q=>nomatch q)
def mixKind (prog:Program) (w:World):PySem.KeyKind prog w Key where
  is:=keyIs
  hash:=keyH w
  inj := fun v a b ha hb=>by
    rcases keyIs_shape ha with ⟨i,t,rfl,rfl⟩ | ⟨x,t,rfl,rfl⟩
    · rcases keyIs_shape hb with ⟨j,u,rfl,e⟩ | ⟨y,u,rfl,e⟩
      · injection e with e1 _;rw [e1]
      · exact nomatch e
    · rcases keyIs_shape hb with ⟨j,u,rfl,e⟩ | ⟨y,u,rfl,e⟩
      · exact nomatch e
      · injection e with e1 _;rw [e1]
  byValue:=fun k v h=>by
    rcases keyIs_shape h with ⟨i,t,rfl,rfl⟩ | ⟨x,t,rfl,rfl⟩ <;> rfl
  pyHash:=fun hv h=>by
    rcases keyIs_shape hv with ⟨i,t,rfl,rfl⟩ | ⟨x,t,rfl,rfl⟩
    · exact wpAny_pyHash_int h
    · exact wpAny_pyHash_str h
  eqBool:=fun hu hv h=>by
    rcases keyIs_shape hu with ⟨i,t,rfl,rfl⟩ | ⟨x,t,rfl,rfl⟩
    · rcases keyIs_shape hv with ⟨j,u,rfl,rfl⟩ | ⟨y,u,rfl,rfl⟩
      · rw [key_ll] at h;exact wpAny_eqBool_int h
      · rw [key_lr] at h;exact SeqAt.EqAt.int_str i t y u _ _ _ _ h
    · rcases keyIs_shape hv with ⟨j,u,rfl,rfl⟩ | ⟨y,u,rfl,rfl⟩
      · rw [key_rl] at h;exact SeqAt.EqAt.str_int x t j u _ _ _ _ h
      · rw [key_rr] at h;exact wpAny_eqBool_str h
  «strs»:=fun k x t v h=>by
    rcases keyIs_shape h with ⟨i,u,rfl,e⟩ | ⟨y,u,rfl,e⟩
    · exact nomatch e
    · injection e with e1 _
      subst e1
      cases v <;> rfl
theorem mixKind_int (prog:Program) (w:World) (i:Int) (t:Tok):(mixKind prog w).is (.inl i) (.int i t)=true:=keyIs_int i t
theorem mixKind_str (prog:Program) (w:World) (x:Str) (t:Tok):(mixKind prog w).is (.inr x) (.str x t)=true:=keyIs_str x t
end L2
namespace L2
open PySem PySem.Spec PyProof.Rows
inductive V where
  | non | bl (b:Bool) | int (i:Int) | str (x:Str) | byt (b:Array UInt8) | flt (b:UInt64) | ref (a:Addr) | ty (n:String)
  deriving DecidableEq
def RelV:V->Value->Prop
  | .non,u=>u=Value.none
  | .bl b,u=>u=Value.bool b
  | .int i,u=>∃ t,u=Value.int i t
  | .str x,u=>∃ t,u=Value.str x t
  | .byt b,u=>∃ t,u=Value.bytes b t
  | .flt b,u=>∃ t,u=Value.float b t
  | .ref a,u=>u=Value.ref a
  | .ty n,u=>u=Value.type n
abbrev Vals:List V->List Value->Prop:=Paired RelV
theorem Vals.length {xs:List V}{us:List Value}(r:Vals xs us):xs.length=us.length:=Paired.length r
theorem Vals.get:∀ {xs:List V}{us:List Value}{i:Nat}{x:V},Vals xs us->xs[i]?=some x->∃ u,us[i]?=some u/\RelV x u
  | _,_,_,_,.nil,e=>by simp at e
  | _,_,0,_,.cons r _,e=>by simp at e;subst e;exact ⟨_,rfl,r⟩
  | _,_,i+1,x,.cons _ t,e=>by
    obtain ⟨u,h1,h2⟩:=Vals.get (i:=i) (x:=x) t (by simpa using e)
    exact ⟨u,by simpa using h1,h2⟩
theorem Vals.set {x:V}{u:Value}(r:RelV x u):∀ {xs:List V}{us:List Value}(i:Nat),Vals xs us->Vals (xs.set i x) (us.set i u)
  | _,_,_,.nil=>.nil
  | _,_,0,.cons _ t=>.cons r t
  | _,_,i+1,.cons q t=>.cons q (Vals.set r i t)
theorem Vals.append:∀ {xs ys:List V}{us ws:List Value},Vals xs us->Vals ys ws->Vals (xs++ys) (us++ws)
  | _,_,_,_,.nil,s=>s
  | _,_,_,_,.cons r t,s=>.cons r (Vals.append t s)
theorem Vals.take:∀ {xs:List V}{us:List Value}(n:Nat),Vals xs us->Vals (xs.take n) (us.take n)
  | _,_,0,_=>.nil
  | _,_,_+1,.nil=>.nil
  | _,_,n+1,.cons r t=>.cons r (Vals.take n t)
theorem Vals.drop:∀ {xs:List V}{us:List Value}(n:Nat),Vals xs us->Vals (xs.drop n) (us.drop n)
  | _,_,0,r=>r
  | _,_,_+1,.nil=>.nil
  | _,_,n+1,.cons _ t=>Vals.drop n t
def RelO:Option V->Option Value->Prop
  | some v,some u=>RelV v u
  | none,none=>True
  | _,_=>False
def KV {κ:Type}:List (κ×V)->List (κ×Value)->Prop:=Paired fun (p:κ×V) (q:κ×Value)=>p.1=q.1/\RelV p.2 q.2
def kV:Key->V
  | .inl i=>.int i
  | .inr x=>.str x
inductive HO where
  | lst (xs:List V)
  | tup (xs:List V)
  | dK (kvs:List (Key×V)) | dT (kvs:List (List Key×V))
  | set (S:Int->Bool) (n:Nat)
  | ins (C dx:Addr) (fs:List (Str×V))
  | own (x:Addr)
  | xd (fs:List (Str×V))
  | met (f x:Addr)
  | rng (lo hi:Int)
  | frz (o:Obj) (u:HO)
  | tbl (ps:Array Value)
  | ext (φ:Heap->Prop)
abbrev Hp:=Addr->Option HO
def upd (H:Hp) (a:Addr) (o:HO):Hp:=fun b=>if b=a then some o else H b
theorem upd_same {H:Hp}{a:Addr}{o:HO}:upd H a o a=some o:=by unfold upd;rw [if_pos rfl]
theorem upd_ne {H:Hp}{a b:Addr}{o:HO}(h:b≠a):upd H a o b=H b:=by unfold upd;rw [if_neg h]
theorem upd_upd {H:Hp}{a:Addr}{o u:HO}:upd (upd H a o) a u=upd H a u:=by
  funext b;unfold upd;split <;> rfl
theorem ne_of {H:Hp}{a b:Addr}{o u:HO}(h:H a=some o) (h':H b=some u) (d:o≠u):a≠b:=by
  intro e;subst e;rw [h] at h';exact d (Option.some.inj h')
theorem ne_of_none {H:Hp}{a b:Addr}{o:HO}(h:H a=some o) (h':H b=none):a≠b:=by
  intro e;subst e;rw [h] at h';cases h'
section
variable (P:Program) (w:World)
def ObjOk (H:Hp) (h:Heap) (a:Addr):HO->Prop
  | .lst xs=>xs.length<=sizeLine/\∃ (its:List Value) (n:Nat),Vals xs its/\h.get? a=some { cls:=.type "list",data:=.seq its.toArray n }
  | .tup xs=>xs.length<=sizeLine/\∃ its:List Value,Vals xs its/\IsTup h a its.toArray
  | .dK kvs=>kvs.length<=sizeLine/\(a==sysModules)=false/\∃ vs,KV kvs vs/\h.DictOf (mixKind P w) a vs
  | .dT kvs=>kvs.length<=sizeLine/\(a==sysModules)=false/\∃ xs:List (List Key×Addr×Value),
      Paired (fun (p:List Key×V) (q:List Key×Addr×Value)=>p.1=q.1/\H q.2.1=some (.tup (p.1.map kV))/\RelV p.2 q.2.2) kvs xs /\
      ∃ o es ep,h.get? a=some o/\o.ExactDict/\o.data=.dict es ep/\es.toList=xs.map (entryOfKey (tupleKind (mixKind P w)))/\(xs.map (·.1)).Nodup
  | .set S n=>h.SetOf (intKind P w) a S n
  | .ins C dx fs=>H dx=some (.own a)/\fs.length<=1000/\dx≠a/\h.get? a=some (PySem.W.instObj C dx) /\
      ∃ mA,h.Ns1 dx mA/\(∀ f,RelO (fs.lookup f) (mA f))/\PySem.Within mA (fs.map (·.1))
  | .own _=>∃ o,h.get? a=some o
  | .xd fs=>∃ mA,h.Ns1 a mA/\∀ f,RelO (fs.lookup f) (mA f)
  | .rng lo hi=>∃ t u v,h.get? a=some { cls:=.type "range",data:=.fields #[.int lo t,.int hi u,.int 1 v] }
  | .frz o u=>h.get? a=some o/\ObjOk H h a u
  | .tbl ps=>h.get? a=some { cls:=.none,data:=.fields ps }
  | .met f x=>h.get? a=some (PySem.W.methodObj (.ref f) (.ref x))
  | .ext φ=>φ h/\(∃ o,h.get? a=some o)/\∀ h1 h2:Heap,φ h1->(∀ o,h1.get? a=some o->h2.get? a=some o)->φ h2
def HOk (H:Hp) (h:Heap):Prop:=∀ a o,H a=some o->ObjOk P w H h a o
end
section
variable {P:Program}{w:World}{H H':Hp}{h h':Heap}{a:Addr}{o:HO}
theorem ObjOk.lt (x:ObjOk P w H h a o):a<h.objs.size:=by
  cases o with
  | lst xs=>obtain ⟨_,_,_,_,e⟩:=x;exact Heap.lt_size e
  | tup xs=>obtain ⟨_,_,_,p⟩:=x;exact p.lt
  | dK kvs=>obtain ⟨_,_,_,_,o,_,_,e,_⟩:=x;exact Heap.lt_size e
  | dT kvs=>obtain ⟨_,_,_,_,o,_,_,e,_⟩:=x;exact Heap.lt_size e
  | set S n=>obtain ⟨o,_,_,_,e,_⟩:=x;exact Heap.lt_size e
  | ins C dx fs=>obtain ⟨_,_,_,e,_⟩:=x;exact Heap.lt_size e
  | own y=>obtain ⟨_,e⟩:=x;exact Heap.lt_size e
  | xd fs=>obtain ⟨_,⟨_,_,_,e,_⟩,_⟩:=x;exact Heap.lt_size e
  | rng lo hi=>obtain ⟨_,_,_,e⟩:=x;exact Heap.lt_size e
  | frz ob u=>obtain ⟨e,_⟩:=x;exact Heap.lt_size e
  | tbl ps=>exact Heap.lt_size (show h.get? a=some _ from x)
  | met f y=>exact Heap.lt_size (show h.get? a=some _ from x)
  | ext φ=>obtain ⟨_,⟨_,e⟩,_⟩:=x;exact Heap.lt_size e
theorem Paired.mapP {α β:Type}{F G:α->β->Prop}:∀ {l₁:List α}{l₂:List β},Paired F l₁ l₂->(∀ a b,F a b->G a b)->Paired G l₁ l₂
  | _,_,.nil,_=>.nil
  | _,_,.cons r t,f=>.cons (f _ _ r) (Paired.mapP t f)
theorem Paired.imp' {α β:Type}{F G:α->β->Prop}(f:∀ a b,F a b->G a b) {l₁:List α}{l₂:List β}(r:Paired F l₁ l₂):Paired G l₁ l₂:=Paired.mapP r f
theorem ObjOk.stay (x:ObjOk P w H h a o) (k:∀ b u,(b=a\/H b=some (.own a))->h.get? b=some u->h'.get? b=some u)
    (ho:∀ b,H b=some (.own a)->H' b=some (.own a)) (ht:∀ b xs,H b=some (.tup xs)->H' b=some (.tup xs)):ObjOk P w H' h' a o:=by
  induction o with
  | lst xs=>obtain ⟨z,its,n,r,e⟩:=x;exact ⟨z,its,n,r,k _ _ (.inl rfl) e⟩
  | tup xs=>obtain ⟨z,its,r,ob,e,c⟩:=x;exact ⟨z,its,r,ob,k _ _ (.inl rfl) e,c⟩
  | dK kvs=>obtain ⟨z,y,vs,r,ob,es,ep,e,c⟩:=x;exact ⟨z,y,vs,r,ob,es,ep,k _ _ (.inl rfl) e,c⟩
  | dT kvs =>
    obtain ⟨z,y,xs,r,ob,es,ep,e,c⟩:=x
    exact ⟨z,y,xs,Paired.mapP r fun p q z=>⟨z.1,ht _ _ z.2.1,z.2.2⟩,ob,es,ep,k _ _ (.inl rfl) e,c⟩
  | set S n=>obtain ⟨ob,es,ep,t,e,c⟩:=x;exact ⟨ob,es,ep,t,k _ _ (.inl rfl) e,c⟩
  | ins C dx fs =>
    obtain ⟨d,z,ne,e,mA,⟨od,es,ep,e2,c⟩,r⟩:=x
    exact ⟨ho _ d,z,ne,k _ _ (.inl rfl) e,mA,⟨od,es,ep,k _ _ (.inr d) e2,c⟩,r⟩
  | own y=>obtain ⟨ob,e⟩:=x;exact ⟨ob,k _ _ (.inl rfl) e⟩
  | xd fs=>obtain ⟨mA,⟨od,es,ep,e,c⟩,r⟩:=x;exact ⟨mA,⟨od,es,ep,k _ _ (.inl rfl) e,c⟩,r⟩
  | rng lo hi=>obtain ⟨t,u,v,e⟩:=x;exact ⟨t,u,v,k _ _ (.inl rfl) e⟩
  | frz ob u ih=>obtain ⟨e,q⟩:=x;exact ⟨k _ _ (.inl rfl) e,ih q⟩
  | tbl ps =>
    have e:h.get? a=some { cls:=.none,data:=.fields ps }:=x
    show h'.get? a=some { cls:=.none,data:=.fields ps }
    exact k a _ (.inl rfl) e
  | met f y =>
    have e:h.get? a=some (PySem.W.methodObj (.ref f) (.ref y)):=x
    show h'.get? a=some (PySem.W.methodObj (.ref f) (.ref y))
    exact k a _ (.inl rfl) e
  | ext φ=>obtain ⟨p,⟨o,e⟩,st⟩:=x;exact ⟨st _ _ p fun o q=>k _ _ (.inl rfl) q,⟨o,k _ _ (.inl rfl) e⟩,st⟩
theorem HOk.lt (x:HOk P w H h) (e:H a=some o):a<h.objs.size:=(x a o e).lt
theorem HOk.fresh (x:HOk P w H h) (e:h.objs.size<=a):H a=none:=by
  cases q:H a with
  | none=>rfl
  | some u=>exact absurd (Nat.lt_of_lt_of_le (x.lt q) e) (Nat.lt_irrefl _)
theorem HOk.kept (x:HOk P w H h) (k:∀ b u,h.get? b=some u->h'.get? b=some u):HOk P w H h':=fun a o e =>
  (x a o e).stay (fun b u _ q=>k b u q) (fun _ q=>q) fun _ _ q=>q
theorem HOk.laid (x:HOk P w H h) (k:∀ b u,h.get? b=some u->h'.get? b=some u) (hp:h.objs.size<=a) (new:ObjOk P w (upd H a o) h' a o):HOk P w (upd H a o) h':=fun b u e=>by
  have hn:=x.fresh hp
  by_cases hb:b=a
  · subst hb;rw [upd_same] at e;cases e;exact new
  · rw [upd_ne hb] at e
    exact (x b u e).stay (fun c v _ q=>k c v q) (fun c q=>by rw [upd_ne (ne_of_none q hn)];exact q) fun c xs q=>by rw [upd_ne (ne_of_none q hn)];exact q
end
def Rd (H:Hp) (a:Addr) (u:HO):Prop:=H a=some u\/∃ o,H a=some (.frz o u)
theorem Rd.ok {P:Program}{w:World}{H:Hp}{h:Heap}{a:Addr}{u:HO}(r:Rd H a u) (x:HOk P w H h):ObjOk P w H h a u:=by
  rcases r with r | ⟨o,r⟩
  · exact x a u r
  · obtain ⟨_,q⟩:=x a _ r
    exact q
def Mut:Option HO->Prop
  | some (.lst _)=>True
  | some (.dK _)=>True
  | some (.dT _)=>True
  | some (.set _ _)=>True
  | some (.ins _ _ _)=>True
  | some (.ext _)=>True
  | _=>False
section
variable {P:Program}{w:World}{H:Hp}{h h':Heap}{x e:Addr}{o':HO}
theorem HOk.write (ok:HOk P w H h) (mu:Mut (H x)) (he:e=x\/H e=some (.own x)) (k:∀ b u,b≠e->h.get? b=some u->h'.get? b=some u) (heo:∃ u,h'.get? e=some u)
    (new:ObjOk P w (upd H x o') h' x o'):HOk P w (upd H x o') h':=fun b u q=>by
  have nown:∀ c y,H c=some (.own y)->c≠x:=fun c y r z=>by subst z;rw [r] at mu;exact mu
  have ntup:∀ c xs,H c=some (.tup xs)->c≠x:=fun c xs r z=>by subst z;rw [r] at mu;exact mu
  by_cases hb:b=x
  · subst hb;rw [upd_same] at q;cases q;exact new
  · rw [upd_ne hb] at q
    by_cases hbe:b=e
    · have q':H b=some (.own x):=by
        rcases he with z | z
        · exact absurd (hbe.trans z) hb
        · rw [hbe];exact z
      rw [q] at q';cases q'
      obtain ⟨v,hv⟩:=heo
      exact ⟨v,by rw [hbe];exact hv⟩
    · refine (ok b u q).stay (fun c v hc r=>k c v ?_ r) (fun c r=>by rw [upd_ne (nown c b r)];exact r) fun c xs r=>by rw [upd_ne (ntup c xs r)];exact r
      rcases hc with rfl | hc
      · exact hbe
      · rintro rfl
        rcases he with z | z
        · exact nown c b hc z
        · rw [hc] at z;cases z;exact hb rfl
end
structure Un (fs ex:List Addr) (H H':Hp) (h h':Heap):Prop where
  keep:∀ b o,h.get? b=some o->H b=none->b∉fs->b∉ex->h'.get? b=some o
  slot:∀ b o,h.get? b=some o->H b=none->b∈fs->b∉ex->∃ sl,h'.get? b=some { o with slots:=sl }
  free:∀ b o,h.get? b=some o->H b=none->b∉ex->H' b=none
  there:∀ b o,h.get? b=some o->b∉ex->∃ o',h'.get? b=some o'
  tups:∀ b xs,H b=some (.tup xs)->H' b=some (.tup xs)
  frzs:∀ b o u,H b=some (.frz o u)->H' b=some (.frz o u)
  tbls:∀ b ps,H b=some (.tbl ps)->∃ more,H' b=some (.tbl (ps++more))
section
variable {fs fs' ex ex':List Addr}{H H1 H2:Hp}{h h1 h2 h':Heap}{a x e:Addr}{o:HO}
theorem Un.any (u:Un fs ex H H1 h h1) {b:Addr}{ob:Obj}(q:h.get? b=some ob) (n:H b=none) (hx:b∉ex):∃ sl,h1.get? b=some { ob with slots:=sl }:=by
  by_cases hb:b∈fs
  · exact u.slot b ob q n hb hx
  · exact ⟨ob.slots,u.keep b ob q n hb hx⟩
theorem Un.kept (k:∀ b u,h.get? b=some u->h'.get? b=some u):Un fs ex H H h h' :=
  ⟨fun b ob q _ _ _=>k b ob q,fun b ob q _ _ _=>⟨ob.slots,k b ob q⟩,fun _ _ _ n _=>n,fun b ob q _=>⟨ob,k b ob q⟩,fun _ _ q=>q,fun _ _ _ q=>q,fun _ ps q=>⟨#[],by rw [q];simp⟩⟩
theorem Un.refl:Un fs ex H H h h:=Un.kept fun _ _ q=>q
theorem Un.laid (k:∀ b u,h.get? b=some u->h'.get? b=some u) (hp:h.objs.size<=a) (hn:H a=none):Un fs ex H (upd H a o) h h' where
  keep:=fun b u q _ _ _=>k b u q
  slot:=fun b u q _ _ _=>⟨u.slots,k b u q⟩
  free:=fun b u q n _=>by rw [upd_ne (Nat.ne_of_lt (Nat.lt_of_lt_of_le (Heap.lt_size q) hp))];exact n
  there:=fun b u q _=>⟨u,k b u q⟩
  tups:=fun b xs q=>by rw [upd_ne (ne_of_none q hn)];exact q
  frzs:=fun b u xs q=>by rw [upd_ne (ne_of_none q hn)];exact q
  tbls:=fun b ps q=>⟨#[],by rw [upd_ne (ne_of_none q hn),q];simp⟩
theorem Un.write (mu:Mut (H x)) (he:e=x\/H e=some (.own x)) (k:∀ b u,b≠e->h.get? b=some u->h'.get? b=some u) (heo:∃ u,h'.get? e=some u):Un fs ex H (upd H x o) h h':=by
  have hx:∀ b,H b=none->b≠x:=fun b n z=>by subst z;rw [n] at mu;exact mu
  have hb:∀ b,H b=none->b≠e:=fun b n z=>by
    subst z
    rcases he with r | r
    · exact hx b n r
    · rw [n] at r;cases r
  have hm:∀ b u,H b=some u->¬ Mut (some u)->b≠x:=fun b u q nm z=>by subst z;rw [q] at mu;exact nm mu
  refine ⟨fun b u q n _ _=>k b u (hb b n) q,fun b u q n _ _=>⟨u.slots,k b u (hb b n) q⟩,fun b u q n _=>by rw [upd_ne (hx b n)];exact n,fun b u q _=>?_,
    fun b xs q=>by rw [upd_ne (hm b _ q fun z=>z)];exact q,fun b u xs q=>by rw [upd_ne (hm b _ q fun z=>z)];exact q,fun b ps q=>⟨#[],by rw [upd_ne (hm b _ q fun z=>z),q];simp⟩⟩
  by_cases hbe:b=e
  · subst hbe;exact heo
  · exact ⟨u,k b u hbe q⟩
end
def trk (h:Heap) (H:Hp):List Addr:=(List.range h.objs.size).filter fun a=>(H a).isSome
def hidT (h:Heap) (H:Hp):Heap:=PySem.W.hideAll h (trk h H)
theorem hidT_size (h:Heap) (H:Hp):(hidT h H).objs.size=h.objs.size:=PySem.W.hideAll_size _ _
theorem hidT_get {h:Heap}{H:Hp}{b:Addr}{o:Obj}(e:h.get? b=some o) (n:H b=none):(hidT h H).get? b=some o :=
  PySem.W.hideAll_get _ e fun hm=>by
    have q:(H b).isSome=true:=(List.mem_filter.mp hm).2
    rw [n] at q;simp at q
theorem of_hidT {h:Heap}{H:Hp}{b:Addr}{o:Obj}(e:(hidT h H).get? b=some o):h.get? b=some o/\H b=none:=by
  have e':h.get? b=some o:=PySem.W.of_hideAll (trk h H) e
  refine ⟨e',?_⟩
  cases q:H b with
  | none=>rfl
  | some x =>
    have hm:b∈trk h H:=List.mem_filter.mpr ⟨List.mem_range.mpr (Heap.lt_size e'),by simp [q]⟩
    have z:(hidT h H).get? b=none:=PySem.W.hideAll_none (trk h H) hm
    rw [z] at e;cases e
end L2
namespace L2
open PySem PySem.Spec PyProof.Rows
structure Mod (K:PySem.W.Frag) (mg:Str->Option Value) (base:Heap):Prop where
  kin:K.In base
  glob:base.Ns mainGlobals mg
  blt:∃ mb,base.Ns builtinsNs mb/\∀ x:Str,x≠"__name__"->mb x=bootBuiltins x
  nolimit:base.NoLimit
structure Cx where
  prog:Program
  w:World
  K:PySem.W.Frag
  mg:Str->Option Value
  base:Heap
  A:Around
  N:List Str
  s₀:Shared
  H₀:Hp
  env:Env
  outer:List Env
  stack:List Env
  ex:List Addr
  fn:Str->Bool
  calm:Bool
  pn:List (Addr×Obj)
  xe:Value->Shared->Prop
def frs (l:List Env):List Addr:=l.filterMap (·.frame)
abbrev Cx.fs (X:Cx):List Addr:=frs X.outer
def Vis (sc:Scope) (x:Str):Prop:=sc.names.lookup x=some .local\/sc.names.lookup x=some .cell\/sc.names.lookup x=some .free
def Loc (sc:Scope) (x:Str):Prop:=sc.names.lookup x=some .local\/sc.names.lookup x=some .cell
def Look (env:Env) (h:Heap) (m:Str->Option Value) (x:Str) (u:Value):Prop :=
  (env.kindOf x=some .local/\m x=some u)\/((env.kindOf x=some .cell\/env.kindOf x=some .free)/\∃ c,env.cells.lookup x=some c/\h.IsCell c (some u))
structure Cx.Ok (X:Cx):Prop where
  mod:Mod X.K X.mg X.base
  kind:X.env.scope.kind=.function
  glob:X.env.globals=mainGlobals
  blt:X.env.builtins=builtinsNs
  above:X.s₀.heap.objs.size<=X.env.locals
  inj:∀ x y c,X.env.cells.lookup x=some c->X.env.cells.lookup y=some c->x=y
  has:∀ x,(X.env.kindOf x=some .cell\/X.env.kindOf x=some .free)->∃ c,X.env.cells.lookup x=some c
  cab:∀ x c,X.fn x=true->X.env.cells.lookup x=some c->X.s₀.heap.objs.size<=c
  hd:X.calm=true->X.A.handled=none
  frames:X.A.frames=some X.stack
  stk:X.stack=X.outer\/(X.stack=X.env::X.outer/\X.env.frame=some X.env.locals)
  exf:∀ b∈X.ex,b≠X.env.locals/\∀ x c,X.env.cells.lookup x=some c->c≠b
  bs:∀ b o,X.base.get? b=some o->X.s₀.heap.get? b=some o/\X.H₀ b=none
  bsz:X.base.objs.size<=X.s₀.heap.objs.size
  noex:∀ b o,X.base.get? b=some o->b∉X.ex
  exfs:∀ b∈X.ex,b∉X.fs
  funs:X.s₀.heap.FunFrames X.base X.outer
  frf:∀ b∈X.fs,X.H₀ b=none
structure Inv (X:Cx) (pins:List (Addr×Obj)) (σ:List (Option V)) (H:Hp) (s:Shared):Prop where
  ok:X.Ok
  os:s.os=X.s₀.os
  bare:AllBare s.gens
  base:Un X.fs X.ex X.H₀ H X.s₀.heap s.heap
  loc:∃ m,s.heap.Ns X.env.locals m/\∀ (i:Nat) (x:Str) (v:V),X.N[i]?=some x->σ[i]?=some (some v)->Vis X.env.scope x->∃ u,RelV v u/\Look X.env s.heap m x u
  cell:∀ x c,X.env.cells.lookup x=some c->∃ v,s.heap.IsCell c v
  free:H X.env.locals=none
  freeC:∀ x c,X.env.cells.lookup x=some c->H c=none
  pin:∀ p∈X.pn++pins,s.heap.get? p.1=some p.2/\H p.1=none/\p.1≠X.env.locals/\p.1∉X.fs/\∀ v,p.2.data≠.cell v
  hok:HOk X.prog X.w H s.heap
  len:σ.length=X.N.length
section
variable {X:Cx}{pins:List (Addr×Obj)}{σ:List (Option V)}{H H':Hp}{s:Shared}{h':Heap}
theorem Cx.Ok.nofr (ok:X.Ok) {b:Addr}{o:Obj}(e:X.base.get? b=some o):b∉X.fs:=fun hb=>by
  have:=(ok.funs.mem hb).1
  rw [e] at this;cases this
theorem Inv.bs (I:Inv X pins σ H s):∀ b o,X.base.get? b=some o->s.heap.get? b=some o/\H b=none:=fun b o e =>
  ⟨I.base.keep b o (I.ok.bs b o e).1 (I.ok.bs b o e).2 (I.ok.nofr e) (I.ok.noex b o e),I.base.free b o (I.ok.bs b o e).1 (I.ok.bs b o e).2 (I.ok.noex b o e)⟩
theorem Inv.bk (I:Inv X pins σ H s):∀ b o,X.base.get? b=some o->s.heap.get? b=some o:=fun b o e=>(I.bs b o e).1
theorem Inv.mod (I:Inv X pins σ H s):Mod X.K X.mg X.base:=I.ok.mod
theorem Inv.kIn (I:Inv X pins σ H s):X.K.In s.heap:=I.ok.mod.kin.keeps I.bk
theorem Inv.lt (I:Inv X pins σ H s):X.env.locals<s.heap.objs.size:=let ⟨_,hn,_⟩:=I.loc;hn.lt
theorem Inv.sz (I:Inv X pins σ H s):X.s₀.heap.objs.size<=s.heap.objs.size:=Nat.le_trans I.ok.above (Nat.le_of_lt I.lt)
theorem Inv.nofs (I:Inv X pins σ H s) {a:Addr}(h:s.heap.objs.size<=a):a∉X.fs:=fun hb=>by
  obtain ⟨_,o,ho,_⟩:=I.ok.funs.mem hb
  exact absurd (Nat.lt_of_lt_of_le (Heap.lt_size ho) (Nat.le_trans I.sz h)) (Nat.lt_irrefl _)
theorem Inv.cne (I:Inv X pins σ H s):∀ x c,X.env.cells.lookup x=some c->c≠X.env.locals:=fun x c e z=>by
  obtain ⟨v,o,ho,hd⟩:=I.cell x c e
  obtain ⟨m,⟨o',es,ep,ho',hd',_⟩,_⟩:=I.loc
  rw [z,ho'] at ho;cases ho;rw [hd'] at hd;cases hd
theorem Inv.funs (I:Inv X pins σ H s):s.heap.FunFrames X.base X.outer:=by
  have all:∀ (l:List Env),(∀ b∈frs l,b∈X.fs)->X.s₀.heap.FunFrames X.base l->s.heap.FunFrames X.base l:=by
    intro l
    induction l with
    | nil=>intro _ _;trivial
    | cons env r ih =>
      intro hs hl
      obtain ⟨hk,⟨L,o,hf,hn,ho,hd⟩,hr⟩:=hl
      have hL:L∈X.fs:=hs L (by unfold frs;rw [List.filterMap_cons,hf];exact List.mem_cons_self)
      obtain ⟨sl,e⟩:=I.base.slot L o ho (I.ok.frf L hL) hL fun z=>I.ok.exfs L z hL
      exact ⟨hk,⟨L,_,hf,hn,e,hd⟩,ih (fun b hb=>hs b (by unfold frs;rw [List.filterMap_cons,hf];exact List.mem_cons_of_mem _ hb)) hr⟩
  exact all X.outer (fun _ hb=>hb) I.ok.funs
theorem Inv.stack (I:Inv X pins σ H s):s.heap.FunFrames X.base X.stack:=by
  rcases I.ok.stk with e | ⟨e,hf⟩
  · rw [e];exact I.funs
  · rw [e]
    obtain ⟨m,hn,_⟩:=I.loc
    refine .cons (by rw [I.ok.kind];decide) hf hn ?_ I.funs
    exact Heap.get?_none_of_le (Nat.le_trans I.ok.bsz I.ok.above)
theorem Inv.stkSub (I:Inv X pins σ H s):∀ b∈frs X.stack,b∈X.env.locals::X.fs:=fun b hb=>by
  rcases I.ok.stk with e | ⟨e,hf⟩
  · rw [e] at hb;exact List.mem_cons_of_mem _ hb
  · rw [e] at hb
    unfold frs at hb
    rw [List.filterMap_cons,hf] at hb
    exact hb
theorem Inv.stkFree (I:Inv X pins σ H s):∀ b∈frs X.stack,H b=none:=fun b hb=>by
  rcases List.mem_cons.mp (I.stkSub b hb) with e | hb
  · rw [e];exact I.free
  · obtain ⟨_,o,ho,_⟩:=I.ok.funs.mem hb
    exact I.base.free b o ho (I.ok.frf b hb) fun z=>I.ok.exfs b z hb
theorem Inv.step {g':Array GenState}{t':Nat}{d':Drawn}{ch:List Addr}(I:Inv X pins σ H s)
    (hch:∀ b∈ch,(b∈X.ex\/X.s₀.heap.objs.size<=b)/\b≠X.env.locals/\(∀ x c,X.env.cells.lookup x=some c->c≠b)/\∀ p∈X.pn++pins,p.1≠b)
    (keep:∀ b o,b≠X.env.locals->b∉X.fs->b∉ch->s.heap.get? b=some o->H b=none->h'.get? b=some o)
    (slot:∀ b o,b≠X.env.locals->b∈X.fs->b∉ch->s.heap.get? b=some o->H b=none->∃ sl,h'.get? b=some { o with slots:=sl }) (free:∀ b o,b∉ch->s.heap.get? b=some o->H b=none->H' b=none)
    (there:∀ b o,b∉ch->s.heap.get? b=some o->∃ o',h'.get? b=some o')
    (tups:∀ b xs,H b=some (.tup xs)->H' b=some (.tup xs)) (frzs:∀ b o u,H b=some (.frz o u)->H' b=some (.frz o u)) (tbls:∀ b ps,H b=some (.tbl ps)->∃ more,H' b=some (.tbl (ps++more)))
    (ns:∀ m,s.heap.Ns X.env.locals m->h'.Ns X.env.locals m) (hok:HOk X.prog X.w H' h') (hg:AllBare g') :
    Inv X pins σ H' { s with heap:=h',gens:=g',drawn:=d',toks:=t' }:=by
  have neL:∀ b o,X.s₀.heap.get? b=some o->b≠X.env.locals:=fun b o e=>Nat.ne_of_lt (Nat.lt_of_lt_of_le (Heap.lt_size e) I.ok.above)
  have neC:∀ b o,X.s₀.heap.get? b=some o->b∉X.ex->b∉ch:=fun b o e hx hb=>by
    rcases (hch b hb).1 with z | z
    · exact hx z
    · exact absurd (Nat.lt_of_lt_of_le (Heap.lt_size e) z) (Nat.lt_irrefl _)
  have cellK:∀ x c,X.env.cells.lookup x=some c->∀ v,s.heap.IsCell c v->h'.IsCell c v:=fun x c e v ⟨o,ho,hd⟩=>by
    have nch:c∉ch:=fun z=>(hch c z).2.2.1 x c e rfl
    by_cases hc:c∈X.fs
    · obtain ⟨sl,q⟩:=slot c o (I.cne x c e) hc nch ho (I.freeC x c e)
      exact ⟨_,q,hd⟩
    · exact ⟨o,keep c o (I.cne x c e) hc nch ho (I.freeC x c e),hd⟩
  refine ⟨I.ok,I.os,hg,⟨fun b o e n hb hx=>?_,fun b o e n hb hx=>?_,fun b o e n hx=>?_,fun b o e hx=>?_,fun b xs e=>tups b xs (I.base.tups b xs e),fun b o xs e=>frzs b o xs (I.base.frzs b o xs e),fun b ps e=>?_⟩,?_,fun x c e=>?_,?_,fun x c e=>?_,fun p hp=>?_,hok,I.len⟩
  · exact keep b o (neL b o e) hb (neC b o e hx) (I.base.keep b o e n hb hx) (I.base.free b o e n hx)
  · obtain ⟨sl,e1⟩:=I.base.slot b o e n hb hx
    obtain ⟨sl',e2⟩:=slot b _ (neL b o e) hb (neC b o e hx) e1 (I.base.free b o e n hx)
    exact ⟨sl',e2⟩
  · obtain ⟨o',e1⟩:=I.base.there b o e hx
    exact free b o' (neC b o e hx) e1 (I.base.free b o e n hx)
  · obtain ⟨o',e1⟩:=I.base.there b o e hx
    exact there b o' (neC b o e hx) e1
  · obtain ⟨m1,e1⟩:=I.base.tbls b ps e
    obtain ⟨m2,e2⟩:=tbls b _ e1
    exact ⟨m1++m2,by rw [e2,Array.append_assoc]⟩
  · obtain ⟨m,hn,hl⟩:=I.loc
    refine ⟨m,ns m hn,fun i x v e1 e2 e3=>?_⟩
    obtain ⟨u,r,l⟩:=hl i x v e1 e2 e3
    refine ⟨u,r,?_⟩
    rcases l with l | ⟨k,c,e,z⟩
    · exact .inl l
    · exact .inr ⟨k,c,e,cellK x c e _ z⟩
  · obtain ⟨v,z⟩:=I.cell x c e
    exact ⟨v,cellK x c e v z⟩
  · obtain ⟨m,⟨o,_,_,ho,_⟩,_⟩:=I.loc
    exact free _ o (fun z=>(hch _ z).2.1 rfl) ho I.free
  · obtain ⟨v,o,ho,hd⟩:=I.cell x c e
    exact free c o (fun z=>(hch c z).2.2.1 x c e rfl) ho (I.freeC x c e)
  · obtain ⟨e,n,ne,nf,d⟩:=I.pin p hp
    have nch:p.1∉ch:=fun z=>(hch p.1 z).2.2.2 p hp rfl
    exact ⟨keep p.1 p.2 ne nf nch e n,free p.1 p.2 nch e n,ne,nf,d⟩
theorem Inv.un {t':Nat}(I:Inv X pins σ H s) (u:Un X.fs [] H H' s.heap h') (hok:HOk X.prog X.w H' h'):Inv X pins σ H' { s with heap:=h',toks:=t' }:=by
  obtain ⟨m,⟨o,es,ep,ho,r⟩,_⟩:=id I.loc
  obtain ⟨sl,hL⟩:=u.any ho I.free (by simp)
  exact I.step (g':=s.gens) (d':=s.drawn) (ch:=[]) (fun _ z=>nomatch z) (fun b o _ hb _ e n=>u.keep b o e n hb (by simp)) (fun b o _ hb _ e n=>u.slot b o e n hb (by simp)) (fun b o _ e n=>u.free b o e n (by simp)) (fun b o _ e=>u.there b o e (by simp)) u.tups u.frzs u.tbls (fun m' hm=>by
    obtain ⟨o',es',ep',ho',r'⟩:=hm
    rw [ho] at ho';cases ho'
    exact ⟨_,es',ep',hL,r'⟩) hok I.bare
theorem Inv.call {g':Array GenState}{t':Nat}{d':Drawn}{ch:List Addr}(I:Inv X pins σ H s) (u:Un (frs X.stack) ch H H' s.heap h') (hok:HOk X.prog X.w H' h') (hg:AllBare g')
    (hch:∀ b∈ch,(b∈X.ex\/X.s₀.heap.objs.size<=b)/\b≠X.env.locals/\(∀ x c,X.env.cells.lookup x=some c->c≠b)/\∀ p∈X.pn++pins,p.1≠b) :
    Inv X pins σ H' { s with heap:=h',gens:=g',drawn:=d',toks:=t' }:=by
  obtain ⟨m,⟨o,es,ep,ho,r⟩,_⟩:=id I.loc
  obtain ⟨sl,hL⟩:=u.any ho I.free fun z=>(hch _ z).2.1 rfl
  exact I.step (ch:=ch) hch (fun b o hL hb hc e n=>u.keep b o e n (fun z=>(List.mem_cons.mp (I.stkSub b z)).elim hL hb) hc) (fun b o _ _ hc e n=>u.any e n hc) (fun b o hc e n=>u.free b o e n hc) (fun b o hc e=>u.there b o e hc) u.tups u.frzs u.tbls (fun m' hm=>by
    obtain ⟨o',es',ep',ho',r'⟩:=hm
    rw [ho] at ho';cases ho'
    exact ⟨_,es',ep',hL,r'⟩) hok hg
theorem Inv.turned {t':Nat}{it:Addr}(I:Inv X pins σ H s) (k:∀ b o,b≠it->s.heap.get? b=some o->h'.get? b=some o) (hn:H it=none) (hL:it≠X.env.locals)
    (h1:it∈X.ex\/X.s₀.heap.objs.size<=it) (h2:∀ x c,X.env.cells.lookup x=some c->c≠it) (h3:∀ p∈X.pn++pins,p.1≠it):Inv X pins σ H { s with heap:=h',toks:=t' }:=by
  have nit:∀ b u,H b=some u->b≠it:=fun b u e z=>by rw [z,hn] at e;cases e
  refine I.step (g':=s.gens) (d':=s.drawn) (ch:=[it]) (fun b hb=>?_) (fun b o _ _ hc e _=>k b o (fun z=>hc (by simp [z])) e) (fun b o _ _ hc e _=>⟨o.slots,k b o (fun z=>hc (by simp [z])) e⟩) (fun _ _ _ _ n=>n)
    (fun b o hc e=>⟨o,k b o (fun z=>hc (by simp [z])) e⟩) (fun _ _ e=>e) (fun _ _ _ e=>e) (fun b ps e=>⟨#[],by rw [e];simp⟩) (fun m hm=>?_) (fun b u e=>?_) I.bare
  · have e:b=it:=by simpa using hb
    subst e
    exact ⟨h1,hL,h2,h3⟩
  · obtain ⟨o,es,ep,ho,r⟩:=hm
    exact ⟨o,es,ep,k _ o (Ne.symm hL) ho,r⟩
  · refine (I.hok b u e).stay (fun c v hc q=>k c v ?_ q) (fun _ q=>q) fun _ _ q=>q
    rcases hc with z | z
    · rw [z];exact nit b u e
    · exact nit c _ z
theorem Inv.tok (I:Inv X pins σ H s) (t:Nat):Inv X pins σ H { s with toks:=t }:=I.un (h':=s.heap) (t':=t) Un.refl I.hok
theorem Inv.kept {t':Nat}(I:Inv X pins σ H s) (k:∀ b u,s.heap.get? b=some u->h'.get? b=some u):Inv X pins σ H { s with heap:=h',toks:=t' }:=I.un (Un.kept k) (I.hok.kept k)
theorem Inv.laid {a:Addr}{o:HO}{t':Nat}(I:Inv X pins σ H s) (k:∀ b u,s.heap.get? b=some u->h'.get? b=some u) (hp:s.heap.objs.size<=a) (new:ObjOk X.prog X.w (upd H a o) h' a o) :
    Inv X pins σ (upd H a o) { s with heap:=h',toks:=t' }:=I.un (Un.laid k hp (I.hok.fresh hp)) (I.hok.laid k hp new)
theorem Inv.write {x e:Addr}{o:HO}{t':Nat}(I:Inv X pins σ H s) (mu:Mut (H x)) (he:e=x\/H e=some (.own x)) (k:∀ b u,b≠e->s.heap.get? b=some u->h'.get? b=some u) (heo:∃ u,h'.get? e=some u)
    (new:ObjOk X.prog X.w (upd H x o) h' x o):Inv X pins σ (upd H x o) { s with heap:=h',toks:=t' }:=I.un (Un.write mu he k heo) (I.hok.write mu he k heo new)
theorem Inv.pins_of {pins':List (Addr×Obj)}(I:Inv X pins σ H s) (h:∀ p∈pins',s.heap.get? p.1=some p.2/\H p.1=none/\p.1≠X.env.locals/\p.1∉X.fs/\∀ v,p.2.data≠.cell v):Inv X pins' σ H s :=
  ⟨I.ok,I.os,I.bare,I.base,I.loc,I.cell,I.free,I.freeC,fun p hp=>(List.mem_append.mp hp).elim (fun z=>I.pin p (List.mem_append_left _ z)) (h p),I.hok,I.len⟩
theorem nodup_ix {N:List Str}(hN:N.Nodup) {i j:Nat}{x:Str}(a:N[i]?=some x) (b:N[j]?=some x):i=j:=by
  obtain ⟨h1,e1⟩:=List.getElem?_eq_some_iff.mp a
  obtain ⟨h2,e2⟩:=List.getElem?_eq_some_iff.mp b
  exact (List.getElem_inj hN).mp (e1.trans e2.symm)
theorem store_ok2 {M:Model}{A:Around}{E:Value->Shared->Prop}{i:Nat}{x:Str}{v:V}{u:Value}{Q:Unit->Shared->Prop}(I:Inv X pins σ H s) (hN:X.N.Nodup) (hi:X.N[i]?=some x) (hx:Loc X.env.scope x) (r:RelV v u)
    (h:∀ s',Inv X pins (σ.set i (some v)) H s'->(∃ a,Heap.SameBut a s.heap s'.heap/\(a=X.env.locals\/X.env.cells.lookup x=some a))->Q () s') (hf:X.fn x=true\/X.env.scope.names.lookup x=some .local:=by first | exact .inl rfl | exact .inr rfl | assumption):wpAny M A (storeName X.env x u) Q E s:=by
  obtain ⟨m,hn,hl⟩:=id I.loc
  have hcls:(X.env.scope.kind==.class||(X.env.scope.kind==.module&&X.env.locals != X.env.globals))=false:=by rw [I.ok.kind];rfl
  have hiσ:i<σ.length:=by rw [I.len];exact (List.getElem?_eq_some_iff.mp hi).1
  have cne:=I.cne
  have tracked:∀ {a:Addr}{h':Heap},(∃ o,s.heap.get? a=some o/\H a=none)->Heap.SameBut a s.heap h'->HOk X.prog X.w H h':=fun {a h'} ha hs b ob e=>by
    obtain ⟨_,_,hfree⟩:=ha
    refine (I.hok b ob e).stay (fun c w' hc q=>(hs.2 c ?_).trans q) (fun _ q=>q) fun _ _ q=>q
    rintro rfl
    rcases hc with rfl | hc
    · rw [hfree] at e;cases e
    · rw [hfree] at hc;cases hc
  rcases hx with hk | hk
  · refine wpAny_storeName_local hk hn (fun h' hn' hs=>?_) hcls
    obtain ⟨oL,_,_,hoL,_⟩:=id hn
    refine h _ ⟨I.ok,I.os,I.bare,⟨fun b o e n hb hx=>?_,fun b o e n hb hx=>?_,I.base.free,fun b o e hx=>?_,I.base.tups,I.base.frzs,I.base.tbls⟩,⟨_,hn',fun j y v' e1 e2 e3=>?_⟩,fun y c e=>?_,I.free,I.freeC,fun p hp=>?_,tracked ⟨oL,hoL,I.free⟩ hs,by simpa using I.len⟩ ⟨_,hs,.inl rfl⟩
    · exact (hs.2 b (Nat.ne_of_lt (Nat.lt_of_lt_of_le (Heap.lt_size e) I.ok.above))).trans (I.base.keep b o e n hb hx)
    · obtain ⟨sl,e1⟩:=I.base.slot b o e n hb hx
      exact ⟨sl,(hs.2 b (Nat.ne_of_lt (Nat.lt_of_lt_of_le (Heap.lt_size e) I.ok.above))).trans e1⟩
    · obtain ⟨o',e1⟩:=I.base.there b o e hx
      exact ⟨o',(hs.2 b (Nat.ne_of_lt (Nat.lt_of_lt_of_le (Heap.lt_size e) I.ok.above))).trans e1⟩
    · by_cases hj:j=i
      · subst hj
        rw [hi] at e1;cases e1
        rw [List.getElem?_set_self hiσ] at e2
        cases e2
        exact ⟨u,r,.inl ⟨hk,by simp⟩⟩
      · rw [List.getElem?_set_ne (Ne.symm hj)] at e2
        obtain ⟨u',r',q⟩:=hl j y v' e1 e2 e3
        refine ⟨u',r',?_⟩
        rcases q with ⟨k,e⟩ | ⟨k,c,e,z⟩
        · refine .inl ⟨k,?_⟩
          have:y≠x:=fun e=>hj (nodup_ix hN e1 (e▸hi))
          simp [this,e]
        · exact .inr ⟨k,c,e,z.sameBut hs (cne y c e)⟩
    · obtain ⟨w',z⟩:=I.cell y c e
      exact ⟨w',z.sameBut hs (cne y c e)⟩
    · obtain ⟨e,n,ne,nf,d⟩:=I.pin p hp
      exact ⟨(hs.2 p.1 ne).trans e,n,ne,nf,d⟩
  · have hfn:X.fn x=true:=by
      rcases hf with z | z
      · exact z
      · rw [z] at hk;cases hk
    obtain ⟨c,hc⟩:=I.ok.has x (.inl hk)
    obtain ⟨w',z⟩:=I.cell x c hc
    refine wpAny_storeName_cell I.ok.kind hk hc z (fun h' hc' hs=>?_)
    obtain ⟨oc,hoc,hocd⟩:=id z
    refine h { s with heap:=h' } ⟨I.ok,I.os,I.bare,⟨fun b o e n hb hx=>?_,fun b o e n hb hx=>?_,I.base.free,fun b o e hx=>?_,I.base.tups,I.base.frzs,I.base.tbls⟩,⟨m,hn.sameBut hs (Ne.symm (cne x c hc)),fun j y v' e1 e2 e3=>?_⟩,fun y c' e=>?_,I.free,I.freeC,fun p hp=>?_,tracked ⟨oc,hoc,I.freeC x c hc⟩ hs,by simpa using I.len⟩ ⟨c,hs,.inr hc⟩
    · exact (hs.2 b (Nat.ne_of_lt (Nat.lt_of_lt_of_le (Heap.lt_size e) (I.ok.cab x c hfn hc)))).trans (I.base.keep b o e n hb hx)
    · obtain ⟨sl,e1⟩:=I.base.slot b o e n hb hx
      exact ⟨sl,(hs.2 b (Nat.ne_of_lt (Nat.lt_of_lt_of_le (Heap.lt_size e) (I.ok.cab x c hfn hc)))).trans e1⟩
    · obtain ⟨o',e1⟩:=I.base.there b o e hx
      exact ⟨o',(hs.2 b (Nat.ne_of_lt (Nat.lt_of_lt_of_le (Heap.lt_size e) (I.ok.cab x c hfn hc)))).trans e1⟩
    · by_cases hj:j=i
      · subst hj
        rw [hi] at e1;cases e1
        rw [List.getElem?_set_self hiσ] at e2
        cases e2
        exact ⟨u,r,.inr ⟨.inl hk,c,hc,hc'⟩⟩
      · rw [List.getElem?_set_ne (Ne.symm hj)] at e2
        obtain ⟨u',r',q⟩:=hl j y v' e1 e2 e3
        refine ⟨u',r',?_⟩
        rcases q with q | ⟨k,c',e,z'⟩
        · exact .inl q
        · refine .inr ⟨k,c',e,z'.sameBut hs ?_⟩
          rintro rfl
          exact hj (nodup_ix hN e1 (I.ok.inj _ _ _ e hc▸hi))
    · by_cases hcc:c'=c
      · subst hcc;exact ⟨_,hc'⟩
      · obtain ⟨w2,z2⟩:=I.cell y c' e
        exact ⟨w2,z2.sameBut hs hcc⟩
    · obtain ⟨e,n,ne,nf,d⟩:=I.pin p hp
      refine ⟨(hs.2 p.1 ?_).trans e,n,ne,nf,d⟩
      intro q
      rw [q,hoc] at e
      have q':oc=p.2:=Option.some.inj e
      exact d w' (by rw [<- q'];exact hocd)
theorem store_ok {M:Model}{A:Around}{E:Value->Shared->Prop}{i:Nat}{x:Str}{v:V}{u:Value}{Q:Unit->Shared->Prop}(I:Inv X pins σ H s) (hN:X.N.Nodup) (hi:X.N[i]?=some x) (hx:Loc X.env.scope x) (r:RelV v u)
    (h:∀ s',Inv X pins (σ.set i (some v)) H s'->Q () s') (hf:X.fn x=true\/X.env.scope.names.lookup x=some .local:=by first | exact .inl rfl | exact .inr rfl | assumption):wpAny M A (storeName X.env x u) Q E s :=
  store_ok2 I hN hi hx r (fun s' I' _=>h s' I') hf
theorem Inv.call' {s':Shared}{ch:List Addr}(I:Inv X pins σ H s) (ho:s'.os=s.os) (u:Un (frs X.stack) ch H H' s.heap s'.heap) (hok:HOk X.prog X.w H' s'.heap) (hg:AllBare s'.gens)
    (hch:∀ b∈ch,(b∈X.ex\/X.s₀.heap.objs.size<=b)/\b≠X.env.locals/\(∀ x c,X.env.cells.lookup x=some c->c≠b)/\∀ p∈X.pn++pins,p.1≠b):Inv X pins σ H' s':=by
  obtain ⟨h',g',d',t',o'⟩:=s'
  have e:o'=s.os:=ho
  subst e
  exact I.call (g':=g') (t':=t') (d':=d') u hok hg hch
end
abbrev XK:=Value->Option Addr->Hp->Prop
abbrev St:=List (Option V)
abbrev VK:=V->Hp->Prop
abbrev TE:=St->Hp->VK->Prop
abbrev TT:=St->Hp->(Bool->Hp->Prop)->Prop
abbrev TA:=St->Hp->(List V->Hp->Prop)->Prop
structure Ends where
  nx:St->Hp->Prop
  rt:VK
  bk:St->Hp->Prop:=fun _ _=>False
  ct:St->Hp->Prop:=fun _ _=>False
abbrev TS:=Ends->St->Hp->Prop
def EP (X:Cx) (pins:List (Addr×Obj)) (σ:St) (Q:VK) (u:Value) (s':Shared):Prop:=∃ v H',Inv X pins σ H' s'/\RelV v u/\Q v H'
def TP (X:Cx) (pins:List (Addr×Obj)) (σ:St) (Q:Bool->Hp->Prop) (b:Bool) (s':Shared):Prop:=∃ H',Inv X pins σ H' s'/\Q b H'
def AP (X:Cx) (pins:List (Addr×Obj)) (σ:St) (Q:List V->Hp->Prop) (us:List Value) (s':Shared):Prop:=∃ vs H',Inv X pins σ H' s'/\Vals vs us/\Q vs H'
def SP (X:Cx) (pins:List (Addr×Obj)) (D:Ends) (f:Flow) (s':Shared):Prop :=
  match f with
  | .next=>∃ σ' H',Inv X pins σ' H' s'/\D.nx σ' H'
  | .brk=>∃ σ' H',Inv X pins σ' H' s'/\D.bk σ' H'
  | .cont=>∃ σ' H',Inv X pins σ' H' s'/\D.ct σ' H'
  | .ret u=>∃ v σ' H',Inv X pins σ' H' s'/\RelV v u/\D.rt v H'
def PE (X:Cx) (e:Expr) (t:TE):Prop :=
  ∀ (pins:List (Addr×Obj)) (s:Shared) (σ:St) (H:Hp) (Q:VK),Inv X pins σ H s->t σ H Q->wpAny (model X.prog X.w) X.A (eval e X.env) (EP X pins σ Q) X.xe s
def PT (X:Cx) (e:Expr) (t:TT):Prop :=
  ∀ (pins:List (Addr×Obj)) (s:Shared) (σ:St) (H:Hp) (Q:Bool->Hp->Prop),Inv X pins σ H s->t σ H Q->wpAny (model X.prog X.w) X.A (isTrue e X.env (eval e X.env)) (TP X pins σ Q) X.xe s
def PW (X:Cx) (e:Expr) (t:TT):Prop :=
  ∀ (whole:Sem Value) (pins:List (Addr×Obj)) (s:Shared) (σ:St) (H:Hp) (Q:Bool->Hp->Prop),Inv X pins σ H s->t σ H Q->wpAny (model X.prog X.w) X.A (isTrue e X.env whole) (TP X pins σ Q) X.xe s
theorem PW.pt {X:Cx}{e:Expr}{t:TT}(h:PW X e t):PT X e t:=h _
def PA (X:Cx) (es:List Expr) (t:TA):Prop :=
  ∀ (pos:Pos) (pins:List (Addr×Obj)) (s:Shared) (σ:St) (H:Hp) (Q:List V->Hp->Prop),Inv X pins σ H s->t σ H Q->wpAny (model X.prog X.w) X.A (spliced (backTo pos (starEach es X.env))) (AP X pins σ Q) X.xe s
def PS (X:Cx) (st:Stmt) (t:TS):Prop :=
  ∀ (pins:List (Addr×Obj)) (s:Shared) (σ:St) (H:Hp) (D:Ends),Inv X pins σ H s->t D σ H->wpAny (model X.prog X.w) X.A (exec st X.env) (SP X pins D) X.xe s
def PSs (X:Cx) (st:List Stmt) (t:TS):Prop :=
  ∀ (pins:List (Addr×Obj)) (s:Shared) (σ:St) (H:Hp) (D:Ends),Inv X pins σ H s->t D σ H->wpAny (model X.prog X.w) X.A (execs st X.env) (SP X pins D) X.xe s
theorem thn {α:Type}{t:Sem α}{Q Q':α->Shared->Prop}{M:Model}{A:Around}{E:Value->Shared->Prop}{s:Shared}(h:wpAny M A t Q E s) (hQ:∀ a s,Q a s->Q' a s):wpAny M A t Q' E s:=wpAny_mono h hQ fun _ _ x=>x
end L2
namespace L2
open PySem PySem.Spec PyProof.Rows
section
variable {X:Cx}
def tVar (i:Nat):TE:=fun σ H Q=>∃ v,σ[i]?=some (some v)/\Q v H
def tC (v:V):TE:=fun _ H Q=>Q v H
theorem pe_var {i:Nat}{x:Str}{pos:Pos}(hN:X.N[i]?=some x) (hv:Vis X.env.scope x) (hd:(x==("__debug__":Str))=false:=by decide) (hcd:(x==("__classdict__":Str))=false:=by decide):PE X (.Name x pos) (tVar i):=by
  intro pins s σ H Q I h
  obtain ⟨v,e,h⟩:=h
  obtain ⟨m,hn,hl⟩:=I.loc
  obtain ⟨u,r,l⟩:=hl i x v hN e hv
  have fin:EP X pins σ Q u s:=⟨v,H,I,r,h⟩
  rcases l with ⟨hk,hm⟩ | ⟨hk,c,hc,hcell⟩
  · exact wpAny_Name (wpAny_loadName_local I.ok.kind hk hn hm fin) hd
  · rcases hk with hk | hk
    · exact wpAny_Name (wpAny_loadName_cell I.ok.kind hk hc hcell fin) hd
    · exact wpAny_Name (wpAny_loadName_free I.ok.kind hk hc hcell fin hcd) hd
theorem pe_int {i j pos}:PE X (.Constant (.int i) j pos) (tC (.int i)):=fun _ _ _ H _ I h=>wpAny_Constant_int ⟨.int i,H,I.tok _,⟨_,rfl⟩,h⟩
theorem pe_bl {b j pos}:PE X (.Constant (.bool b) j pos) (tC (.bl b)):=fun _ _ _ H _ I h=>Constant_bool ⟨.bl b,H,I,rfl,h⟩
theorem pe_non {j pos}:PE X (.Constant .none j pos) (tC .non):=fun _ _ _ H _ I h=>Constant_none ⟨.non,H,I,rfl,h⟩
theorem pe_str {x j pos}:PE X (.Constant (.str x) j pos) (tC (.str x)):=fun _ _ _ H _ I h=>Calls.Constant_str ⟨.str x,H,I.tok _,⟨_,rfl⟩,h⟩
def Gl (X:Cx) (x:Str):Prop:=X.env.kindOf x=some .globalImplicit
theorem ld_glob {E:Value->Shared->Prop}{pins:List (Addr×Obj)}{s:Shared}{σ:St}{H:Hp}{x:Str}{u:Value}{pos:Pos}{Q:Value->Shared->Prop}(I:Inv X pins σ H s) (hg:Gl X x) (hm:X.mg x=some u) (h:Q u s)
    (hd:(x==("__debug__":Str))=false:=by decide):wpAny (model X.prog X.w) X.A (eval (.Name x pos) X.env) Q E s :=
  Calls.Name_function_global I.ok.kind hg (Calls.loadGlobal_global (by rw [I.ok.glob];exact I.mod.glob.keeps I.bk) hm h) hd
theorem ld_blt {E:Value->Shared->Prop}{pins:List (Addr×Obj)}{s:Shared}{σ:St}{H:Hp}{x:Str}{u:Value}{pos:Pos}{Q:Value->Shared->Prop}(I:Inv X pins σ H s) (hg:Gl X x) (hm:X.mg x=none) (hv:bootBuiltins x=some u) (h:Q u s)
    (hn:x≠"__name__":=by decide) (hd:(x==("__debug__":Str))=false:=by decide):wpAny (model X.prog X.w) X.A (eval (.Name x pos) X.env) Q E s:=by
  obtain ⟨mb,h1,h2⟩:=I.mod.blt
  exact Calls.Name_function_global I.ok.kind hg (Calls.loadGlobal_builtin (by rw [I.ok.glob];exact I.mod.glob.keeps I.bk) hm (by rw [I.ok.blt];exact h1.keeps I.bk) ((h2 x hn).trans hv) h) hd
theorem pe_bltn {x:Str}{v:V}{u:Value}{pos:Pos}(hg:Gl X x) (hm:X.mg x=none) (hv:bootBuiltins x=some u) (r:RelV v u) (hn:x≠"__name__":=by decide) (hd:(x==("__debug__":Str))=false:=by decide):PE X (.Name x pos) (tC v) :=
  fun _ _ _ H _ I h=>ld_blt I hg hm hv ⟨v,H,I,r,h⟩ hn hd
variable {a b:Expr}{ta tb:TE}{pos:Pos}
def PC (X:Cx) (op:CmpOp) (a b:Expr) (t:TE):Prop :=
  ∀ (pins:List (Addr×Obj)) (s:Shared) (σ:St) (H:Hp) (Q:VK),Inv X pins σ H s->t σ H Q ->
    wpAny (model X.prog X.w) X.A (eval a X.env) (fun v s₁=>wpAny (model X.prog X.w) X.A (eval b X.env) (fun u s₂=>wpAny (model X.prog X.w) X.A (compareOp op v u) (EP X pins σ Q) X.xe s₂) X.xe s₁) X.xe s
def tB (t:TE):TT:=fun σ H Q=>t σ H fun x H1=>∃ c,x=.bl c/\Q c H1
theorem pt_cmp {op:CmpOp}{t:TE}(h:PC X op a b t) (h1:behindInMarks op b=false:=by first | exact nobehind _ (by decide) (by decide) | rfl):PT X (.Compare a [op] [b] pos) (tB t):=by
  intro pins s σ H Q I hw
  refine wpAny_isTrue_Compare1 (thn (h pins s σ H _ I hw) fun v s1 h1=>thn h1 fun u s2 h2=>thn h2 fun c s3 ⟨x,H1,I1,r1,q1⟩=>?_) h1
  obtain ⟨d,rfl,q⟩:=q1
  cases r1
  exact wpAny_truthy_bool ⟨H1,I1,q⟩
theorem pt_val {e:Expr}{t:TE}(h:PE X e t) (he:∀ whole,isTrue e X.env whole=(do let v <- whole;standAt e.pos;holding [v] (truthy v)):=by intro _;rfl):PT X e (tB t):=by
  intro pins s σ H Q I hw
  refine isTrue_plain (thn (h pins s σ H _ I hw) fun v s1 ⟨x,H1,I1,r1,q1⟩=>?_) (he _)
  obtain ⟨d,rfl,q⟩:=q1
  cases r1
  exact wpAny_truthy_bool ⟨H1,I1,q⟩
variable {tA tB':TT}{rest:List Expr}
def tAnd (t u:TT):TT:=fun σ H Q=>t σ H fun c H1=>if c=true then u σ H1 Q else Q false H1
def tOr (t u:TT):TT:=fun σ H Q=>t σ H fun c H1=>if c=true then Q true H1 else u σ H1 Q
def tNot (t:TT):TT:=fun σ H Q=>t σ H fun c H1=>Q (!c) H1
theorem pw_and1 (ha:PT X a tA):PW X (.BoolOp .And [a] pos) tA:=by
  intro wh pins s σ H Q I h
  refine isTrue_and (thn (ha pins s σ H Q I h) fun c s1 e=>?_)
  cases c with
  | true=>exact isTrue_and_nil e
  | false=>exact e
theorem pw_or1 (ha:PT X a tA):PW X (.BoolOp .Or [a] pos) tA:=by
  intro wh pins s σ H Q I h
  refine isTrue_or (thn (ha pins s σ H Q I h) fun c s1 e=>?_)
  cases c with
  | false=>exact isTrue_or_nil e
  | true=>exact e
theorem pw_and (ha:PT X a tA) (hb:PW X (.BoolOp .And (b::rest) pos) tB'):PW X (.BoolOp .And (a::b::rest) pos) (tAnd tA tB'):=by
  intro wh pins s σ H Q I h
  refine isTrue_and (thn (ha pins s σ H _ I h) fun c s1 ⟨H1,I1,q1⟩=>?_)
  cases c with
  | true=>exact hb wh pins s1 σ H1 Q I1 q1
  | false=>exact ⟨H1,I1,q1⟩
theorem pw_or (ha:PT X a tA) (hb:PW X (.BoolOp .Or (b::rest) pos) tB'):PW X (.BoolOp .Or (a::b::rest) pos) (tOr tA tB'):=by
  intro wh pins s σ H Q I h
  refine isTrue_or (thn (ha pins s σ H _ I h) fun c s1 ⟨H1,I1,q1⟩=>?_)
  cases c with
  | true=>exact ⟨H1,I1,q1⟩
  | false=>exact hb wh pins s1 σ H1 Q I1 q1
theorem pt_not (ha:PT X a tA):PT X (.UnaryOp .Not a pos) (tNot tA):=by
  intro pins s σ H Q I h
  exact isTrue_not (ha pins s σ H (fun c H1=>Q (!c) H1) I h)
def tAndV (ta tb:TE):TE:=fun σ H Q=>ta σ H fun x H1=>∃ c,x=.bl c/\if c=true then tb σ H1 Q else Q (.bl false) H1
def tOrV (ta tb:TE):TE:=fun σ H Q=>ta σ H fun x H1=>∃ c,x=.bl c/\if c=true then Q (.bl true) H1 else tb σ H1 Q
def tNotV (ta:TE):TE:=fun σ H Q=>ta σ H fun x H1=>∃ c,x=.bl c/\Q (.bl (!c)) H1
theorem pe_one {op} {t:TE}(h:PE X a t):PE X (.BoolOp op [a] pos) t:=fun pins s σ H Q I hw=>BoolOp_one (h pins s σ H Q I hw)
theorem pe_and (ha:PE X a ta) (hb:PE X (.BoolOp .And (b::rest) pos) tb):PE X (.BoolOp .And (a::b::rest) pos) (tAndV ta tb):=by
  intro pins s σ H Q I h
  refine BoolOp_and (thn (ha pins s σ H _ I h) fun v s1 ⟨x,H1,I1,r1,q1⟩=>?_)
  obtain ⟨c,rfl,q1⟩:=q1
  cases r1
  refine wpAny_truthy_bool ?_
  cases c with
  | true=>exact hb pins s1 σ H1 Q I1 q1
  | false=>exact ⟨.bl false,H1,I1,rfl,q1⟩
theorem pe_or (ha:PE X a ta) (hb:PE X (.BoolOp .Or (b::rest) pos) tb):PE X (.BoolOp .Or (a::b::rest) pos) (tOrV ta tb):=by
  intro pins s σ H Q I h
  refine BoolOp_or (thn (ha pins s σ H _ I h) fun v s1 ⟨x,H1,I1,r1,q1⟩=>?_)
  obtain ⟨c,rfl,q1⟩:=q1
  cases r1
  refine wpAny_truthy_bool ?_
  cases c with
  | false=>exact hb pins s1 σ H1 Q I1 q1
  | true=>exact ⟨.bl true,H1,I1,rfl,q1⟩
theorem pe_not (ha:PE X a ta):PE X (.UnaryOp .Not a pos) (tNotV ta):=by
  intro pins s σ H Q I h
  refine UnaryOp_ (thn (ha pins s σ H _ I h) fun v s1 ⟨x,H1,I1,r1,q1⟩=>?_)
  obtain ⟨c,rfl,q1⟩:=q1
  cases r1
  exact not_of (wpAny_truthy_bool ⟨.bl (!c),H1,I1,rfl,q1⟩)
def tIf (t:TT) (ta tb:TE):TE:=fun σ H Q=>t σ H fun c H1=>if c=true then ta σ H1 Q else tb σ H1 Q
theorem pe_ifExp {c:Expr}(hc:PT X c tA) (ha:PE X a ta) (hb:PE X b tb):PE X (.IfExp c a b pos) (tIf tA ta tb):=by
  intro pins s σ H Q I h
  refine wpAny_IfExp (thn (hc pins s σ H _ I h) fun d s1 ⟨H1,I1,q1⟩=>?_)
  cases d with
  | true=>exact ha pins s1 σ H1 Q I1 q1
  | false=>exact hb pins s1 σ H1 Q I1 q1
end
end L2
namespace L2
open PySem PySem.Spec PyProof.Rows
def SqL (K:PySem.W.Frag) (H:Hp) (a:Addr) (xs:List V):Prop :=
  Rd H a (.lst xs) \/
    ∃ (o:Obj) (its:Array Value) (n:Nat),K.lookup a=some o/\o.cls=.type "list"/\o.dict=none/\o.data=.seq its n/\its.size<=sizeLine/\Vals xs its.toList
def SqT (K:PySem.W.Frag) (H:Hp) (a:Addr) (xs:List V):Prop :=
  Rd H a (.tup xs) \/
    ∃ (o:Obj) (its:Array Value) (n:Nat),K.lookup a=some o/\o.cls=.type "tuple"/\o.data=.seq its n/\its.size<=sizeLine/\Vals xs its.toList
def absV:Value->Option V
  | .none=>some .non
  | .bool b=>some (.bl b)
  | .int i _=>some (.int i)
  | .str x _=>some (.str x)
  | .bytes b _=>some (.byt b)
  | .float b _=>some (.flt b)
  | .ref a=>some (.ref a)
  | .type n=>some (.ty n)
  | _=>none
theorem RelV.abs {x:V}{u:Value}(r:RelV x u):absV u=some x:=by
  cases x with
  | non=>cases r;rfl
  | bl _=>cases r;rfl
  | int _=>obtain ⟨t,rfl⟩:=r;rfl
  | str _=>obtain ⟨t,rfl⟩:=r;rfl
  | byt _=>obtain ⟨t,rfl⟩:=r;rfl
  | flt _=>obtain ⟨t,rfl⟩:=r;rfl
  | ref _=>cases r;rfl
  | ty _=>cases r;rfl
theorem RelV.inj {x y:V}{u:Value}(r:RelV x u) (q:RelV y u):x=y:=Option.some.inj (r.abs.symm.trans q.abs)
theorem Vals.inj:∀ {xs ys:List V}{us:List Value},Vals xs us->Vals ys us->xs=ys
  | _,_,_,.nil,.nil=>rfl
  | _,_,_,.cons r t,.cons r' t'=>by rw [r.inj r',Vals.inj t t']
section
variable {X:Cx}{pins:List (Addr×Obj)}{σ:St}{H:Hp}{s:Shared}{a:Addr}{xs ys:List V}
theorem SqL.of {K:PySem.W.Frag}(h:H a=some (.lst xs)):SqL K H a xs:=.inl (.inl h)
theorem SqT.of {K:PySem.W.Frag}(h:H a=some (.tup xs)):SqT K H a xs:=.inl (.inl h)
theorem Inv.list (I:Inv X pins σ H s) (h:SqL X.K H a xs):∃ its:List Value,Vals xs its/\PlainL s.heap a its.toArray/\xs.length<=sizeLine:=by
  rcases h with h | ⟨o,its,n,hk,hc,hd,hs,hz,r⟩
  · obtain ⟨z,its,n,r,e⟩:=h.ok I.hok
    exact ⟨its,r,⟨_,n,e,rfl,rfl,rfl⟩,z⟩
  · refine ⟨its.toList,r,⟨o,n,I.kIn a o hk,hc,hd,by simpa using hs⟩,?_⟩
    have e:=r.length
    simp only [Array.length_toList] at e
    omega
theorem Inv.tuple (I:Inv X pins σ H s) (h:SqT X.K H a xs):∃ its:List Value,Vals xs its/\IsTup s.heap a its.toArray/\xs.length<=sizeLine:=by
  rcases h with h | ⟨o,its,n,hk,hc,hs,hz,r⟩
  · obtain ⟨z,its,r,p⟩:=h.ok I.hok
    exact ⟨its,r,p,z⟩
  · refine ⟨its.toList,r,⟨o,I.kIn a o hk,hc,n,by simpa using hs⟩,?_⟩
    have e:=r.length
    simp only [Array.length_toList] at e
    omega
theorem Inv.list_inj (I:Inv X pins σ H s) (h:SqL X.K H a xs) (h':SqL X.K H a ys):xs=ys:=by
  obtain ⟨its,r,⟨o,n,e,_,_,d⟩,_⟩:=I.list h
  obtain ⟨its',r',⟨o',n',e',_,_,d'⟩,_⟩:=I.list h'
  rw [e] at e';cases e'
  rw [d] at d'
  injection d' with d1 _
  have:its=its':=by simpa using congrArg Array.toList d1
  subst this
  exact r.inj r'
end
abbrev Cx.wish (X:Cx) (E:Value->Shared->Prop):Cx:={ X with xe:=E }
abbrev Cx.nox (X:Cx):Cx:=X.wish fun _ _=>False
theorem Cx.Ok.wish {X:Cx}(ok:X.Ok) (E:Value->Shared->Prop):(X.wish E).Ok :=
  ⟨ok.mod,ok.kind,ok.glob,ok.blt,ok.above,ok.inj,ok.has,ok.cab,ok.hd,ok.frames,ok.stk,ok.exf,ok.bs,ok.bsz,ok.noex,ok.exfs,ok.funs,ok.frf⟩
theorem Cx.Ok.unwish {X:Cx}{E:Value->Shared->Prop}(ok:(X.wish E).Ok):X.Ok :=
  ⟨ok.mod,ok.kind,ok.glob,ok.blt,ok.above,ok.inj,ok.has,ok.cab,ok.hd,ok.frames,ok.stk,ok.exf,ok.bs,ok.bsz,ok.noex,ok.exfs,ok.funs,ok.frf⟩
section
variable {X:Cx}{pins:List (Addr×Obj)}{σ:St}{H:Hp}{s:Shared}{E:Value->Shared->Prop}
theorem Inv.wish (I:Inv X pins σ H s) (E:Value->Shared->Prop):Inv (X.wish E) pins σ H s:=⟨I.ok.wish E,I.os,I.bare,I.base,I.loc,I.cell,I.free,I.freeC,I.pin,I.hok,I.len⟩
theorem Inv.unwish (I:Inv (X.wish E) pins σ H s):Inv X pins σ H s:=⟨I.ok.unwish,I.os,I.bare,I.base,I.loc,I.cell,I.free,I.freeC,I.pin,I.hok,I.len⟩
theorem SP.unwish {D:Ends}{f:Flow}{s':Shared}(h:SP (X.wish E) pins D f s'):SP X pins D f s':=by
  cases f with
  | next=>obtain ⟨σ',H',I,q⟩:=h;exact ⟨σ',H',I.unwish,q⟩
  | brk=>obtain ⟨σ',H',I,q⟩:=h;exact ⟨σ',H',I.unwish,q⟩
  | cont=>obtain ⟨σ',H',I,q⟩:=h;exact ⟨σ',H',I.unwish,q⟩
  | ret u=>obtain ⟨v,σ',H',I,r,q⟩:=h;exact ⟨v,σ',H',I.unwish,r,q⟩
theorem PSs.nox {st:List Stmt}{t:TS}(h:PSs X.nox st t):PSs X st t:=fun pins s σ H D I hw =>
  wpAny_mono (h pins s σ H D (I.wish _) hw) (fun _ _ q=>q.unwish) fun _ _ z=>False.elim z
end
section
variable {X:Cx}{st:Stmt}{rest:List Stmt}{t u:TS}{e:Expr}{te:TE}{pos:Pos}
def tNext:TS:=fun D σ H=>D.nx σ H
def tSeq (t u:TS):TS:=fun D σ H=>t { D with nx:=u D } σ H
theorem pss_nil:PSs X [] tNext:=fun _ _ σ H _ I h=>wpAny_execs_nil ⟨σ,H,I,h⟩
theorem pss_cons (h1:PS X st t) (h2:PSs X rest u):PSs X (st::rest) (tSeq t u):=by
  intro pins s σ H D I h
  refine wpAny_execs_cons (thn (h1 pins s σ H { D with nx:=u D } I h) fun f s1 q=>?_)
  cases f with
  | next =>
    obtain ⟨σ',H',I',q⟩:=q
    exact h2 pins s1 σ' H' D I' q
  | ret v=>exact q
  | brk=>exact q
  | cont=>exact q
theorem pss_one (h1:PS X st t):PSs X [st] t:=by
  intro pins s σ H D I h
  refine wpAny_execs_cons (thn (h1 pins s σ H D I h) fun f s1 q=>?_)
  cases f with
  | next=>exact wpAny_execs_nil q
  | ret v=>exact q
  | brk=>exact q
  | cont=>exact q
theorem Inv.quiet {pins:List (Addr×Obj)}{σ:St}{H:Hp}{s:Shared}(I:Inv X pins σ H s):interactive X.env=false:=by simp [interactive,I.ok.kind]
def tDrop (te:TE):TS:=fun D σ H=>te σ H fun _ H1=>D.nx σ H1
theorem ps_expr (he:PE X e te) (hs:swapsWith e none pos.line X.env=pure false:=by rfl):PS X (.Expr e pos) (tDrop te):=by
  intro pins s σ H D I h
  exact wpAny_Expr_any (thn (he pins s σ H _ I h) fun v s1 ⟨x,H1,I1,r1,q1⟩=>⟨σ,H1,I1,q1⟩) I.quiet hs
def tRet (te:TE):TS:=fun D σ H=>te σ H D.rt
theorem ps_ret (he:PE X e te):PS X (.Return (some e) pos) (tRet te):=by
  intro pins s σ H D I h
  exact wpAny_Return_some (thn (he pins s σ H _ I h) fun v s1 ⟨x,H1,I1,r1,q1⟩=>⟨x,σ,H1,I1,r1,q1⟩)
def tIfS (c:TT) (t u:TS):TS:=fun D σ H=>c σ H fun b H1=>if b=true then t D σ H1 else u D σ H1
theorem ps_if {c:Expr}{a b:List Stmt}{tc:TT}(hc:PT X c tc) (ha:PSs X a t) (hb:PSs X b u):PS X (.If c a b pos) (tIfS tc t u):=by
  intro pins s σ H D I h
  refine wpAny_If (thn (hc pins s σ H _ I h) fun d s1 ⟨H1,I1,q1⟩=>?_)
  cases d with
  | true=>exact ha pins s1 σ H1 D I1 q1
  | false=>exact hb pins s1 σ H1 D I1 q1
end
abbrev TG:=V->St->Hp->(St->Hp->Prop)->Prop
abbrev TGs:=List V->St->Hp->(St->Hp->Prop)->Prop
def PG (X:Cx) (target:Expr) (t:TG):Prop :=
  ∀ (pins:List (Addr×Obj)) (s:Shared) (σ:St) (H:Hp) (v:V) (u:Value) (Q:St->Hp->Prop),Inv X pins σ H s->RelV v u->t v σ H Q ->
    wpAny (model X.prog X.w) X.A (assign target X.env u) (fun _ s'=>∃ σ' H',Inv X pins σ' H' s'/\Q σ' H') X.xe s
def PGs (X:Cx) (ts:List Expr) (t:TGs):Prop :=
  ∀ (pins:List (Addr×Obj)) (s:Shared) (σ:St) (H:Hp) (vs:List V) (us:List Value) (Q:St->Hp->Prop),Inv X pins σ H s->Vals vs us->t vs σ H Q ->
    wpAny (model X.prog X.w) X.A (assignInOrder ((assignEach ts X.env).map (·.2)) us) (fun _ s'=>∃ σ' H',Inv X pins σ' H' s'/\Q σ' H') X.xe s
abbrev TSet:=V->V->V->Hp->(Hp->Prop)->Prop
def PSet (X:Cx) (t:TSet):Prop :=
  ∀ (pins:List (Addr×Obj)) (s:Shared) (σ:St) (H:Hp) (o i v:V) (ov iv u:Value) (Q:Hp->Prop),Inv X pins σ H s->RelV o ov->RelV i iv->RelV v u->t o i v H Q ->
    wpAny (model X.prog X.w) X.A (setItem ov iv u) (fun _ s'=>∃ H',Inv X pins σ H' s'/\Q H') X.xe s
section
variable {X:Cx}{pos:Pos}
def gName (i:Nat):TG:=fun v σ H Q=>Q (σ.set i (some v)) H
theorem pg_name {i:Nat}{x:Str}(hN:X.N.Nodup) (hi:X.N[i]?=some x) (hx:Loc X.env.scope x) (hf:X.fn x=true\/X.env.scope.names.lookup x=some .local:=by first | exact .inl rfl | exact .inr rfl | assumption):PG X (.Name x pos) (gName i):=by
  intro pins s σ H v u Q I r h
  exact wpAny_assign_Name (store_ok I hN hi hx r (fun s' I'=>⟨_,H,I',h⟩) hf)
def gNil:TGs:=fun vs σ H Q=>vs=[]/\Q σ H
def gCons (t:TG) (u:TGs):TGs:=fun vs σ H Q=>∃ v r,vs=v::r/\t v σ H fun σ' H'=>u r σ' H' Q
theorem pgs_nil:PGs X [] gNil:=by
  intro pins s σ H vs us Q I r h
  obtain ⟨e,h⟩:=h
  subst e
  cases r
  exact assignInOrder_nil ⟨σ,H,I,h⟩
theorem pgs_cons {e:Expr}{es:List Expr}{t:TG}{u:TGs}(h1:PG X e t) (h2:PGs X es u)
    (hs:(assignEach (e::es) X.env).map (·.2)=assign e X.env::(assignEach es X.env).map (·.2):=by rfl):PGs X (e::es) (gCons t u):=by
  intro pins s σ H vs us Q I r h
  obtain ⟨v,vr,e1,h⟩:=h
  subst e1
  cases r with
  | cons r rr =>
    rw [hs]
    refine assignInOrder_cons (thn (h1 pins s σ H _ _ _ I r h) fun _ s1 ⟨σ1,H1,I1,q1⟩=>?_)
    exact h2 pins s1 σ1 H1 _ _ Q I1 rr q1
def gTup (K:PySem.W.Frag) (n:Nat) (t:TGs):TG:=fun v σ H Q=>∃ a xs,v=.ref a/\SqT K H a xs/\xs.length=n/\t xs σ H Q
theorem pg_tup {es:List Expr}{k:Nat}{t:TGs}{n:Nat}(hc:X.calm=true) (h:PGs X es t)
    (hn:(assignEach es X.env).length=n:=by rfl) (hst:(assignEach es X.env).findIdx? (·.1)=none:=by rfl):PG X (.Tuple es k pos) (gTup X.K n t):=by
  intro pins s σ H v u Q I r hw
  obtain ⟨a,xs,e1,hq,hl,hw⟩:=hw
  subst e1
  cases r
  obtain ⟨its,rv,ht,hz⟩:=I.tuple hq
  refine assign_Tuple_tuple (I.ok.hd hc) ht (by simp [hn,<- hl,rv.length]) hst fun h' hx=>?_
  have I1:Inv X pins σ H { s with heap:=h' }:=I.kept (t':=s.toks) fun b o e=>hx b o (Nat.ne_of_lt (Heap.lt_size e)) e
  exact h pins _ σ H xs _ Q I1 (by simpa using rv) hw
def gSub (to ti:TE) (t:TSet):TG:=fun v σ H Q=>to σ H fun o H1=>ti σ H1 fun i H2=>t o i v H2 fun H3=>Q σ H3
theorem pg_sub {o i:Expr}{to ti:TE}{t:TSet}(ho:PE X o to) (hi:PE X i ti) (hs:PSet X t)
    (ha:∀ v,assign (.Subscript o i pos) X.env v=(do
      let ov <- holding [v] (eval o X.env)
      let iv <- holding [v,ov] (eval i X.env)
      standAt pos
      holding [v,ov,iv] (setItem ov iv v)
      release [v,ov,iv] []):=by intro _;rfl):PG X (.Subscript o i pos) (gSub to ti t):=by
  intro pins s σ H v u Q I r h
  rw [ha]
  refine wpAny_bind (wpAny_holding (thn (ho pins s σ H _ I h) fun ov s1 ⟨x,H1,I1,r1,q1⟩=>?_))
  refine wpAny_bind (wpAny_holding (thn (hi pins s1 σ H1 _ I1 q1) fun iv s2 ⟨y,H2,I2,r2,q2⟩=>?_))
  refine wpAny_bind (wpAny_standAt (wpAny_bind (wpAny_holding (thn (hs pins s2 σ H2 x y v ov iv u _ I2 r1 r2 r q2) fun _ s3 ⟨H3,I3,q3⟩=>?_))))
  exact wpAny_release ⟨σ,H3,I3,q3⟩
def tAsg (te:TE) (g:TG):TS:=fun D σ H=>te σ H fun x H1=>g x σ H1 D.nx
theorem ps_asg {tg e:Expr}{te:TE}{g:TG}(he:PE X e te) (hg:PG X tg g) (hs:swapsWithSole [tg] e pos.line X.env=pure false:=by rfl) (hw:swappedStores [tg] e X.env=pure none:=by rfl)
    (h1:(assignEach [tg] X.env).map (·.2)=[assign tg X.env]:=by rfl):PS X (.Assign [tg] e pos) (tAsg te g):=by
  intro pins s σ H D I h
  refine wpAny_Assign_stores (thn (he pins s σ H _ I h) fun v s1 ⟨x,H1,I1,r1,q1⟩=>?_) hs hw
  rw [h1]
  exact thn (hg pins s1 σ H1 x v _ I1 r1 q1) fun _ s2 q=>q
theorem ps_set {i:Nat}{x:Str}{e:Expr}{te:TE}{pos':Pos}(hN:X.N.Nodup) (hi:X.N[i]?=some x) (hx:Loc X.env.scope x) (he:PE X e te) (hs:swapsWith e (some (.Name x pos')) pos.line X.env=pure false:=by rfl) (hf:X.fn x=true\/X.env.scope.names.lookup x=some .local:=by first | exact .inl rfl | exact .inr rfl | assumption) :
    PS X (.Assign [.Name x pos'] e pos) (tAsg te (gName i)):=by
  intro pins s σ H D I h
  refine wpAny_Assign_Name (thn (he pins s σ H _ I h) fun v s1 ⟨y,H1,I1,r1,q1⟩=>?_) hs
  exact store_ok I1 hN hi hx r1 (fun s2 I2=>⟨_,H1,I2,q1⟩) hf
end
section
variable {X:Cx}{pos:Pos}
def tWhile (c:TT) (tb:TS):TS:=fun D σ H=>∃ W:Nat->St->Hp->Prop,(∃ m,W m σ H)/\∀ m σ H,W m σ H ->
  c σ H fun b H1=>if b=true then ∃ N:St->Hp->Prop,(∀ σ' H',N σ' H'->∃ m',m'<m/\W m' σ' H')/\tb { D with nx:=N,ct:=N,bk:=D.nx } σ H1 else D.nx σ H1
theorem ps_while {c:Expr}{body:List Stmt}{tc:TT}{tb:TS}(hp:PassesOwn (model X.prog X.w) X.A X.env X.xe) (hc:PT X c tc) (hb:PSs X body tb):PS X (.While c body [] pos) (tWhile tc tb):=by
  intro pins s σ H D I h
  obtain ⟨W,⟨m0,w0⟩,turn⟩:=h
  refine wpAny_While (codeAny_whileLoop (fun n s'=>∃ σ' H',Inv X pins σ' H' s'/\W n σ' H') ?_ m0 ⟨σ,H,I,w0⟩)
  rintro n s1 ⟨σ1,H1,I1,w1⟩
  refine wpAny_passesOwn hp (thn (hc pins s1 σ1 H1 _ I1 (turn n σ1 H1 w1)) fun b s2 ⟨H2,I2,q2⟩=>?_)
  cases b with
  | true =>
    obtain ⟨N,hN,q2⟩:=q2
    rw [if_pos rfl]
    refine wpAny_passesOwn hp (thn (hb pins s2 σ1 H2 _ I2 q2) fun f s3 q3=>?_)
    cases f with
    | next =>
      obtain ⟨σ3,H3,I3,n3⟩:=q3
      obtain ⟨m',hm,w3⟩:=hN σ3 H3 n3
      exact ⟨m',hm,σ3,H3,I3,w3⟩
    | cont =>
      obtain ⟨σ3,H3,I3,n3⟩:=q3
      obtain ⟨m',hm,w3⟩:=hN σ3 H3 n3
      exact ⟨m',hm,σ3,H3,I3,w3⟩
    | brk=>exact q3
    | ret v=>exact q3
  | false =>
    rw [if_neg Bool.false_ne_true]
    exact wpAny_execs_nil ⟨σ1,H2,I2,q2⟩
end
structure It where
  go:Nat->Hp->Prop
  yld:Nat->Hp->V->Hp->Prop
  stop:Nat->Hp->Prop
def FpOk (X:Cx) (pins:List (Addr×Obj)) (H:Hp) (b:Addr):Prop :=
  H b=none/\b≠X.env.locals/\b∉X.fs/\(b∈X.ex\/X.s₀.heap.objs.size<=b)/\(∀ x c,X.env.cells.lookup x=some c->c≠b)/\∀ p∈X.pn++pins,p.1≠b
theorem Inv.fpOk {X:Cx}{pins:List (Addr×Obj)}{σ:St}{H H':Hp}{s:Shared}{b:Addr}(I:Inv X pins σ H s) (hb:s.heap.objs.size<=b) (hn:H' b=none):FpOk X pins H' b:=by
  refine ⟨hn,Nat.ne_of_gt (Nat.lt_of_lt_of_le I.lt hb),I.nofs hb,.inr (Nat.le_trans I.sz hb),fun x c e z=>?_,fun p hp z=>?_⟩
  · obtain ⟨v,q⟩:=I.cell x c e
    exact absurd (Nat.lt_of_lt_of_le q.lt (by rw [z];exact hb)) (Nat.lt_irrefl _)
  · exact absurd (Nat.lt_of_lt_of_le (Heap.lt_size (I.pin p hp).1) (by rw [z];exact hb)) (Nat.lt_irrefl _)
structure Turn (P:Program) (w:World) (K:PySem.W.Frag) (tg:Expr) (J:It) (fp:List Addr) (it:Addr) (tn:Nat->Heap->Prop):Prop where
  mem:it∈fp
  obj:∀ i h,tn i h->∀ b∈fp,∃ o,h.get? b=some o/\∀ v,o.data≠.cell v
  keep:∀ i h h',tn i h->(∀ b∈fp,∀ o,h.get? b=some o->h'.get? b=some o)->tn i h'
  item:∀ (X:Cx),X.prog=P->X.w=w->X.K=K->X.calm=true->∀ (i:Nat) (pins:List (Addr×Obj)) (s:Shared) (σ:St) (H:Hp) (E:Value->Shared->Prop),Inv X pins σ H s->(∀ b∈fp,FpOk X pins H b)->tn i s.heap->J.go i H ->
    wpAny (model P w) X.A (pyNext (.ref it)) (fun r s1=>∃ u,r=some u /\
      wpAny (model P w) X.A (letOwnedTupleGo tg (.ref it) u) (fun _ s2=>∃ x H',Inv X pins σ H' s2/\RelV x u/\J.yld i H x H'/\tn (i+1) s2.heap/\∀ b∈fp,H' b=none) E s1) E s
  done:∀ (X:Cx),X.prog=P->X.w=w->X.K=K->X.calm=true->∀ (i:Nat) (pins:List (Addr×Obj)) (s:Shared) (σ:St) (H:Hp) (E:Value->Shared->Prop),Inv X pins σ H s->(∀ b∈fp,FpOk X pins H b)->tn i s.heap->J.stop i H ->
    wpAny (model P w) X.A (pyNext (.ref it)) (fun r s1=>r=none/\Inv X pins σ H s1) E s
  self:∀ (A:Around) (i:Nat) (s:Shared) (Q:Value->Shared->Prop) (E:Value->Shared->Prop),tn i s.heap->Q (.ref it) s->wpAny (model P w) A (pyIter (.ref it)) Q E s
abbrev TI:=St->Hp->(It->Hp->Prop)->Prop
def PIE (X:Cx) (pins:List (Addr×Obj)) (σ:St) (tg:Expr) (R:It->Hp->Prop) (itv:Value) (s2:Shared):Prop :=
  ∃ (it:Addr) (fp:List Addr) (tn:Nat->Heap->Prop) (J:It) (H':Hp),itv=.ref it/\Inv X pins σ H' s2/\Turn X.prog X.w X.K tg J fp it tn/\tn 0 s2.heap/\(∀ b∈fp,FpOk X pins H' b)/\R J H'
def PI (X:Cx) (tg iter:Expr) (wi:TI):Prop :=
  ∀ (pins:List (Addr×Obj)) (s:Shared) (σ:St) (H:Hp) (R:It->Hp->Prop),Inv X pins σ H s->wi σ H R ->
    wpAny (model X.prog X.w) X.A (eval iter X.env) (fun v s1=>wpAny (model X.prog X.w) X.A (pyIter v) (PIE X pins σ tg R) X.xe s1) X.xe s
theorem go_of {M:Model}{A:Around}{E:Value->Shared->Prop}{s:Shared}{tg:Expr}{it:Addr}{u:Value}{o:Obj}{n:String}{vs:Array Value}{Q:Unit->Shared->Prop}(ho:s.heap.get? it=some o) (hc:o.cls=.type n) (hd:o.data=.fields vs)
    (hn:["enumerate","zip","dict_itemiterator","dict_reverseitemiterator","odict_iterator","itertools.zip_longest","itertools.pairwise"].contains n=false) (hQ:Q () s):wpAny M A (letOwnedTupleGo tg (.ref it) u) Q E s:=by
  unfold letOwnedTupleGo
  cases tg <;> first
    | exact wpAny_pure hQ
    | (cases u <;> first
        | exact wpAny_pure hQ
        | (refine wpAny_bind (wpAny_load ho ?_)
           rw [hc,hd]
           show wpAny M A (if (["enumerate","zip","dict_itemiterator","dict_reverseitemiterator","odict_iterator","itertools.zip_longest","itertools.pairwise"].contains n&&vs[0]?==some (rawInt _))=true then _ else _) Q E s
           rw [if_neg (by intro h;rw [hn,Bool.false_and] at h;cases h)]
           exact wpAny_pure hQ))
def Itl (K:PySem.W.Frag) (a:Addr):It :=
  ⟨fun i H=>∃ xs x,SqL K H a xs/\xs[i]?=some x,fun i H x H'=>H'=H/\∀ xs,SqL K H a xs->xs[i]?=some x,fun i H=>∃ xs,SqL K H a xs/\xs.length<=i⟩
def Itr (lo:Int) (n:Nat):It:=⟨fun i _=>i<n,fun i H x H'=>H'=H/\x=.int (lo+i),fun i _=>n<=i⟩
theorem turn_list {P:Program}{w:World}{K:PySem.W.Frag}{tg:Expr}(a it:Addr):Turn P w K tg (Itl K a) [it] it (fun i h=>h.IsListIter it a i) where
  mem:=by simp
  obj:=fun i h st b hb=>by
    have e:b=it:=by simpa using hb
    subst e
    obtain ⟨o,e,c,d⟩:=st
    exact ⟨o,e,fun v z=>by rw [d] at z;cases z⟩
  keep:=fun i h h' st k=>st.at fun o e=>k it (by simp) o e
  item:=by
    intro X hP hw hK hc i pins s σ H E I hf st hg
    subst hP hw hK
    obtain ⟨xs,x,hq,hx⟩:=hg
    obtain ⟨its,rv,p,hz⟩:=I.list hq
    obtain ⟨u,hu,ru⟩:=rv.get hx
    obtain ⟨f0,f1,f2,f3,f4,f5⟩:=hf it (by simp)
    refine wpAny_pyNext_list_item st p.isList (x:=u) (by simpa using hu) fun h' st' sb=>?_
    have I1:Inv X pins σ H { s with heap:=h' }:=I.turned (t':=s.toks) (fun b o hb e=>(sb.2 b hb).trans e) f0 f1 f3 f4 f5
    obtain ⟨o,e,c,d⟩:=id st'
    exact ⟨u,rfl,go_of (s:={ s with heap:=h' }) e c d (by decide) ⟨x,H,I1,ru,⟨rfl,fun ys hy=>by rw [I.list_inj hy hq];exact hx⟩,st',fun b hb=>(hf b hb).1⟩⟩
  done:=by
    intro X hP hw hK hc i pins s σ H E I hf st hg
    subst hP hw hK
    obtain ⟨xs,hq,hx⟩:=hg
    obtain ⟨its,rv,p,hz⟩:=I.list hq
    obtain ⟨f0,f1,f2,f3,f4,f5⟩:=hf it (by simp)
    have hl:=rv.length
    exact wpAny_pyNext_list_end (I.ok.hd hc) st p.isList (by simp;omega) fun h' eb=>⟨rfl,I.turned (t':=s.toks) (fun b o hb e=>eb b o hb e) f0 f1 f3 f4 f5⟩
  self:=fun _ _ _ _ _ st h=>wpAny_pyIter_listiter st h
theorem turn_range {P:Program}{w:World}{K:PySem.W.Frag}{tg:Expr}(it:Addr) (lo:Int) (n:Nat):Turn P w K tg (Itr lo n) [it] it (fun i h=>IsRangeIter h it (lo+(i:Nat) * 1) ((n:Int) - (i:Nat)) 1) where
  mem:=by simp
  obj := fun i h st b hb=>by
    have e:b=it:=by simpa using hb
    subst e
    exact ⟨_,st,fun v z=>by
      have z':Data.fields _=Data.cell v:=z
      cases z'⟩
  keep:=fun i h h' st k=>k it (by simp) _ st
  item:=by
    intro X hP hw hK hc i pins s σ H E I hf st hg
    subst hP hw hK
    obtain ⟨f0,f1,f2,f3,f4,f5⟩:=hf it (by simp)
    have W:=Walks.range (prog:=X.prog) (w:=X.w) (I.ok.hd hc) it lo 1 n
    refine W.item i s _ _ hg st fun v h' tk hv st' kk=>?_
    obtain ⟨t,rfl⟩:=hv
    have I1:Inv X pins σ H { s with heap:=h',toks:=tk }:=I.turned (fun b o hb e=>kk b o (by simpa using hb) e) f0 f1 f3 f4 f5
    refine ⟨_,rfl,go_of (s:={ s with heap:=h',toks:=tk }) (n:="range_iterator") st' rfl rfl (by decide) ⟨.int (lo+i),H,I1,⟨t,?_⟩,⟨rfl,rfl⟩,st',fun b hb=>(hf b hb).1⟩⟩
    rw [Int.mul_one]
  done:=by
    intro X hP hw hK hc i pins s σ H E I hf st hg
    subst hP hw hK
    obtain ⟨f0,f1,f2,f3,f4,f5⟩:=hf it (by simp)
    exact wpAny_pyNext_range_end (I.ok.hd hc) st (by have:n<=i:=hg;omega) fun h' eb=>⟨rfl,I.turned (t':=s.toks) (fun b o hb e=>eb b o hb e) f0 f1 f3 f4 f5⟩
  self:=fun _ _ _ _ _ st h=>wpAny_pyIter_rangeiter st h
end L2
namespace L2
open PySem PySem.Spec PyProof.Rows
section
variable {X:Cx}{tg:Expr}
def iList (K:PySem.W.Frag) (tl:TE):TI:=fun σ H R=>tl σ H fun x H1=>∃ a,x=.ref a/\(∃ xs,SqL K H1 a xs)/\R (Itl K a) H1
theorem pi_list {l:Expr}{tl:TE}(hl:PE X l tl):PI X tg l (iList X.K tl):=by
  intro pins s σ H R I h
  refine thn (hl pins s σ H _ I h) fun v s1 ⟨x,H1,I1,r1,q1⟩=>?_
  obtain ⟨a,e,⟨xs,hq⟩,q⟩:=q1
  subst e
  cases r1
  obtain ⟨its,rv,p,hz⟩:=I1.list hq
  refine wpAny_pyIter_list p.isList ?_
  refine ⟨s1.heap.objs.size,[s1.heap.objs.size],_,_,H1,rfl,I1.kept (t':=s1.toks) fun b o e=>Heap.get?_push_of_some _ e,turn_list a _,⟨_,Heap.get?_push_size _ rfl,rfl,rfl⟩,fun b hb=>?_,q⟩
  have e:b=s1.heap.objs.size:=by simpa using hb
  subst e
  exact I1.fpOk (Nat.le_refl _) (I1.hok.fresh (Nat.le_refl _))
theorem range_it {pins:List (Addr×Obj)}{σ:St}{H:Hp}{s:Shared}{R:It->Hp->Prop}{E:Value->Shared->Prop}{lo hi:Int}{t u v:Tok}{tk:Nat}(I:Inv X pins σ H s) (h1 : -(2 ^ 62)<=lo) (h2:lo<2 ^ 62) (h3 : -(2 ^ 62)<=hi) (h4:hi<2 ^ 62)
    (q:R (Itr lo (hi - lo).toNat) H):wpAny (model X.prog X.w) X.A (pyIter (.ref s.heap.objs.size)) (PIE X pins σ tg R) E { s with heap:=s.heap.push { cls:=.type "range",data:=.fields #[.int lo t,.int hi u,.int 1 v] },toks:=tk }:=by
  refine wpAny_pyIter_range (IsRange.new ..) (small_one h1 h2 h3 h4) ?_
  have I1:Inv X pins σ H { s with heap:=s.heap.push { cls:=.type "range",data:=.fields #[.int lo t,.int hi u,.int 1 v] },toks:=tk }:=I.kept fun b o e=>Heap.get?_push_of_some _ e
  refine ⟨(s.heap.push { cls:=.type "range",data:=.fields #[.int lo t,.int hi u,.int 1 v] }).objs.size,[(s.heap.push { cls:=.type "range",data:=.fields #[.int lo t,.int hi u,.int 1 v] }).objs.size],_,_,H,rfl,
    I1.kept (t':=tk) fun b o e=>Heap.get?_push_of_some _ e,turn_range _ lo (hi - lo).toNat,?_,fun b hb=>?_,q⟩
  · have e1:lo+((0:Nat):Int) * 1=lo:=by simp
    have e2:(((hi - lo).toNat:Nat):Int) - ((0:Nat):Int)=Builtin.Range.rangeSize lo hi 1:=by rw [rangeSize_one];split <;> omega
    show IsRangeIter _ _ (lo+((0:Nat):Int) * 1) ((((hi - lo).toNat:Nat):Int) - ((0:Nat):Int)) 1
    rw [e1,e2]
    exact Heap.get?_push_size _ rfl
  · have e:b=(s.heap.push { cls:=.type "range",data:=.fields #[.int lo t,.int hi u,.int 1 v] }).objs.size:=by simpa using hb
    subst e
    exact I1.fpOk (Nat.le_refl _) (I1.hok.fresh (Nat.le_refl _))
def iRng1 (ta:TA):TI:=fun σ H R=>ta σ H fun vs H1=>∃ j:Int,vs=[.int j] /\ -(2 ^ 62)<=j/\j<2 ^ 62/\R (Itr 0 j.toNat) H1
theorem pi_range1 {a:Expr}{ta:TA}{p pos:Pos}(hg:Gl X "range") (hm:X.mg "range"=none) (ha:PA X [a] ta) (hs:starEach [a] X.env=[(false,eval a X.env)]:=by rfl):PI X tg (.Call (.Name "range" p) [a] [] pos) (iRng1 ta):=by
  intro pins s σ H R I h
  refine Call_ (ld_blt I hg hm boot_range (PyProof.Rows.callWith_type1 (thn (ha pos pins s σ H _ I h) fun us s1 ⟨vs,H1,I1,r1,q1⟩=>?_) hs rfl))
  obtain ⟨j,e,q1,q2,q⟩:=q1
  subst e
  cases r1 with
  | cons r rr =>
    cases rr
    obtain ⟨t,rfl⟩:=r
    exact call_range_1 (range_it I1 (by omega) (by omega) q1 q2 (by simpa using q))
def tFor (wi:TI) (g:TG) (tb:TS):TS:=fun D σ H=>wi σ H fun J H1=>∃ W:Nat->Nat->St->Hp->Prop,(∃ m,W 0 m σ H1)/\∀ i m σ H,W i m σ H ->
  (J.stop i H/\D.nx σ H)\/(J.go i H/\∃ N:St->Hp->Prop,(∀ σ' H',N σ' H'->∃ m',m'<m/\W (i+1) m' σ' H')/\∀ x H',J.yld i H x H'->g x σ H' fun σ2 H2=>tb { D with nx:=N,ct:=N,bk:=D.nx } σ2 H2)
def pinsAt (fp:List Addr) (h:Heap):List (Addr×Obj):=fp.filterMap fun b=>(h.get? b).map fun o=>(b,o)
theorem mem_pinsAt {fp:List Addr}{h:Heap}{b:Addr}{o:Obj}(hb:b∈fp) (e:h.get? b=some o):(b,o)∈pinsAt fp h:=List.mem_filterMap.mpr ⟨b,hb,by rw [e];rfl⟩
theorem of_pinsAt {fp:List Addr}{h:Heap}{p:Addr×Obj}(hp:p∈pinsAt fp h):p.1∈fp/\h.get? p.1=some p.2:=by
  obtain ⟨b,hb,e⟩:=List.mem_filterMap.mp hp
  cases q:h.get? b with
  | none=>rw [q] at e;cases e
  | some o =>
    rw [q] at e
    have e':(b,o)=p:=Option.some.inj e
    subst e'
    exact ⟨hb,q⟩
theorem Inv.pinned {pins:List (Addr×Obj)}{σ:St}{H:Hp}{s:Shared}{fp:List Addr}(I:Inv X pins σ H s) (hf:∀ b∈fp,FpOk X pins H b) (ho:∀ b∈fp,∃ o,s.heap.get? b=some o/\∀ v,o.data≠.cell v):Inv X (pins++pinsAt fp s.heap) σ H s :=
  I.pins_of fun p hp=>(List.mem_append.mp hp).elim (fun z=>I.pin p (List.mem_append_right _ z)) fun z=>by
    obtain ⟨hb,e⟩:=of_pinsAt z
    obtain ⟨f0,f1,f2,_⟩:=hf p.1 hb
    obtain ⟨o,e',d⟩:=ho p.1 hb
    rw [e] at e';cases e'
    exact ⟨e,f0,f1,f2,d⟩
theorem Inv.unpinned {pins pl:List (Addr×Obj)}{σ:St}{H:Hp}{s:Shared}(I:Inv X (pins++pl) σ H s):Inv X pins σ H s:=I.pins_of fun p hp=>I.pin p (List.mem_append_right _ (List.mem_append_left _ hp))
theorem ps_for {iter:Expr}{body:List Stmt}{wi:TI}{g:TG}{tb:TS}{pos:Pos}(hp:PassesOwn (model X.prog X.w) X.A X.env X.xe) (hc:X.calm=true) (hi:PI X tg iter wi) (hg:PG X tg g) (hb:PSs X body tb)
    (hs:∀ x,foldedSetIterable iter X.env x=pure x:=by intro _;rfl):PS X (.For tg iter body [] pos) (tFor wi g tb):=by
  intro pins s σ H D I h
  refine wpAny_For (thn (hi pins s σ H _ I h) fun v s1 h1=>thn h1 fun itv s2 h2=>?_) hs
  obtain ⟨it,fp,tn,J,H2,e,I2,T,st2,f2,W,⟨m0,w0⟩,turn⟩:=h2
  subst e
  have stat:∀ {H':Hp},(∀ b∈fp,H' b=none)->∀ b∈fp,FpOk X pins H' b:=fun hn b hb=>⟨hn b hb,(f2 b hb).2⟩
  refine codeAny_forLoop_any (fun n s'=>∃ i σ' H',Inv X pins σ' H' s'/\tn i s'.heap/\(∀ b∈fp,H' b=none)/\W i n σ' H') ?_ m0 ⟨0,σ,H2,I2,st2,fun b hb=>(f2 b hb).1,w0⟩
  rintro n s3 ⟨i,σ3,H3,I3,st3,fr3,w3⟩
  rcases turn i n σ3 H3 w3 with ⟨stop,qn⟩ | ⟨go,N,hN,step⟩
  · refine wpAny_passesOwn hp (thn (T.done X rfl rfl rfl hc i pins s3 σ3 H3 X.xe I3 (stat fr3) st3 stop) fun r s4 ⟨hr,I4⟩=>?_)
    subst hr
    exact wpAny_execs_nil ⟨σ3,H3,I4,qn⟩
  · refine wpAny_passesOwn hp (thn (T.item X rfl rfl rfl hc i pins s3 σ3 H3 X.xe I3 (stat fr3) st3 go) fun r s4 ⟨u,hr,h4⟩=>?_)
    subst hr
    refine wpAny_passesOwn hp (thn h4 fun _ s5 ⟨x,H5,I5,r5,y5,st5,fr5⟩=>?_)
    have I5':=I5.pinned (stat fr5) (T.obj _ _ st5)
    refine wpAny_passesOwn hp (thn (hg _ s5 σ3 H5 x u _ I5' r5 (step x H5 y5)) fun _ s6 ⟨σ6,H6,I6,q6⟩=>?_)
    refine wpAny_passesOwn hp (thn (hb _ s6 σ6 H6 _ I6 q6) fun f s7 q7=>?_)
    have again:∀ {σ7:St}{H7:Hp},Inv X (pins++pinsAt fp s5.heap) σ7 H7 s7->N σ7 H7->∃ m,m<n/\∃ i σ' H',Inv X pins σ' H' s7/\tn i s7.heap/\(∀ b∈fp,H' b=none)/\W i m σ' H':=fun {σ7 H7} I7 n7=>by
      obtain ⟨m',hm,w7⟩:=hN σ7 H7 n7
      refine ⟨m',hm,i+1,σ7,H7,I7.unpinned,T.keep _ _ _ st5 fun b hb o e=>(I7.pin (b,o) (List.mem_append_right _ (List.mem_append_right _ (mem_pinsAt hb e)))).1,fun b hb=>?_,w7⟩
      obtain ⟨o,e,d⟩:=T.obj _ _ st5 b hb
      exact (I7.pin (b,o) (List.mem_append_right _ (List.mem_append_right _ (mem_pinsAt hb e)))).2.1
    cases f with
    | next=>obtain ⟨σ7,H7,I7,n7⟩:=q7;exact again I7 n7
    | cont=>obtain ⟨σ7,H7,I7,n7⟩:=q7;exact again I7 n7
    | brk=>obtain ⟨σ7,H7,I7,q7⟩:=q7;exact ⟨σ7,H7,I7.unpinned,q7⟩
    | ret v=>obtain ⟨x7,σ7,H7,I7,r7,q7⟩:=q7;exact ⟨x7,σ7,H7,I7.unpinned,r7,q7⟩
end
theorem for_list {K:PySem.W.Frag}{a:Addr}{xs:List V}{g:TG}{tb:TS}{D:Ends}{σ:St}{H:Hp}(Pv:Nat->St->Hp->Prop) (h0:Pv 0 σ H) (hl:∀ i σ H,i<=xs.length->Pv i σ H->SqL K H a xs)
    (hs:∀ i x σ H,xs[i]?=some x->Pv i σ H->g x σ H fun σ2 H2=>tb { D with nx:=Pv (i+1),ct:=Pv (i+1),bk:=D.nx } σ2 H2) (hd:∀ σ H,Pv xs.length σ H->D.nx σ H) :
    ∃ W:Nat->Nat->St->Hp->Prop,(∃ m,W 0 m σ H)/\∀ i m σ H,W i m σ H ->
      ((Itl K a).stop i H/\D.nx σ H)\/((Itl K a).go i H/\∃ N:St->Hp->Prop,(∀ σ' H',N σ' H'->∃ m',m'<m/\W (i+1) m' σ' H')/\∀ x H',(Itl K a).yld i H x H'->g x σ H' fun σ2 H2=>tb { D with nx:=N,ct:=N,bk:=D.nx } σ2 H2):=by
  refine ⟨fun i m σ H=>m=xs.length - i/\i<=xs.length/\Pv i σ H,⟨xs.length,by simp,Nat.zero_le _,h0⟩,?_⟩
  rintro i m σ H ⟨rfl,hi,p⟩
  have q:=hl i σ H hi p
  by_cases hlt:i<xs.length
  · refine .inr ⟨⟨xs,xs[i],q,by simp [hlt]⟩,Pv (i+1),fun σ' H' p'=>⟨xs.length - (i+1),by omega,rfl,hlt,p'⟩,fun x H' y=>?_⟩
    obtain ⟨e,y⟩:=y
    subst e
    exact hs i x σ _ (y xs q) p
  · have e:i=xs.length:=by omega
    subst e
    exact .inl ⟨⟨xs,q,Nat.le_refl _⟩,hd σ H p⟩
theorem for_range {lo:Int}{n:Nat}{g:TG}{tb:TS}{D:Ends}{σ:St}{H:Hp}(Pv:Nat->St->Hp->Prop) (h0:Pv 0 σ H)
    (hs:∀ i σ H,i<n->Pv i σ H->g (.int (lo+i)) σ H fun σ2 H2=>tb { D with nx:=Pv (i+1),ct:=Pv (i+1),bk:=D.nx } σ2 H2) (hd:∀ σ H,Pv n σ H->D.nx σ H) :
    ∃ W:Nat->Nat->St->Hp->Prop,(∃ m,W 0 m σ H)/\∀ i m σ H,W i m σ H ->
      ((Itr lo n).stop i H/\D.nx σ H)\/((Itr lo n).go i H/\∃ N:St->Hp->Prop,(∀ σ' H',N σ' H'->∃ m',m'<m/\W (i+1) m' σ' H')/\∀ x H',(Itr lo n).yld i H x H'->g x σ H' fun σ2 H2=>tb { D with nx:=N,ct:=N,bk:=D.nx } σ2 H2):=by
  refine ⟨fun i m σ H=>m=n - i/\i<=n/\Pv i σ H,⟨n,by simp,Nat.zero_le _,h0⟩,?_⟩
  rintro i m σ H ⟨rfl,hi,p⟩
  by_cases hlt:i<n
  · refine .inr ⟨hlt,Pv (i+1),fun σ' H' p'=>⟨n - (i+1),by omega,rfl,hlt,p'⟩,fun x H' y=>?_⟩
    obtain ⟨e,y⟩:=y
    subst e y
    exact hs i σ _ hlt p
  · have e:i=n:=by omega
    subst e
    exact .inl ⟨Nat.le_refl _,hd σ H p⟩
end L2
namespace L2
open PySem PySem.Spec PyProof.Rows
abbrev R2:=V->V->Hp->VK->Prop
def OpR (X:Cx) (f:Value->Value->Sem Value) (r:R2):Prop :=
  ∀ (pins:List (Addr×Obj)) (s:Shared) (σ:St) (H:Hp) (x y:V) (v u:Value) (Q:VK),Inv X pins σ H s->RelV x v->RelV y u->r x y H Q ->
    wpAny (model X.prog X.w) X.A (f v u) (EP X pins σ Q) X.xe s
def CallR (X:Cx) (f:Value) (r:List V->Hp->VK->Prop):Prop :=
  ∀ (pins:List (Addr×Obj)) (s:Shared) (σ:St) (H:Hp) (xs:List V) (us:List Value) (Q:VK),Inv X pins σ H s->Vals xs us->r xs H Q ->
    wpAny (model X.prog X.w) X.A (call f us) (EP X pins σ Q) X.xe s
def TruR (X:Cx) (r:V->Hp->(Bool->Hp->Prop)->Prop):Prop :=
  ∀ (pins:List (Addr×Obj)) (s:Shared) (σ:St) (H:Hp) (x:V) (v:Value) (Q:Bool->Hp->Prop),Inv X pins σ H s->RelV x v->r x H Q ->
    wpAny (model X.prog X.w) X.A (truthy v) (TP X pins σ Q) X.xe s
def tOp (r:R2) (ta tb:TE):TE:=fun σ H Q=>ta σ H fun x H1=>tb σ H1 fun y H2=>r x y H2 Q
def rI (C:Int->Int->Prop) (g:Int->Int->V):R2:=fun x y H Q=>∃ i j,x=.int i/\y=.int j/\C i j/\Q (g i j) H
def rI0 (g:Int->Int->V):R2:=fun x y H Q=>∃ i j,x=.int i/\y=.int j/\Q (g i j) H
section
variable {X:Cx}{a b c:Expr}{ta tb tc:TE}{pos:Pos}
theorem binT (ha:PE X a ta) (hb:PE X b tb) {pins:List (Addr×Obj)}{s:Shared}{σ:St}{H:Hp}{R:V->V->Hp->Prop}(I:Inv X pins σ H s)
    (h:ta σ H fun x H1=>tb σ H1 fun y H2=>R x y H2) {Q:Value->Shared->Prop}{f:Value->Value->Sem Value}
    (hf:∀ v u s2 x y H2,Inv X pins σ H2 s2->RelV x v->RelV y u->R x y H2->wpAny (model X.prog X.w) X.A (f v u) Q X.xe s2) :
    wpAny (model X.prog X.w) X.A (eval a X.env) (fun v s₁=>wpAny (model X.prog X.w) X.A (eval b X.env) (fun u s₂=>wpAny (model X.prog X.w) X.A (f v u) Q X.xe s₂) X.xe s₁) X.xe s:=by
  refine thn (ha pins s σ H _ I h) fun v s1 ⟨x,H1,I1,r1,q1⟩=>?_
  refine thn (hb pins s1 σ H1 _ I1 q1) fun u s2 ⟨y,H2,I2,r2,q2⟩=>?_
  exact hf v u s2 x y H2 I2 r1 r2 q2
theorem pe_op {op:Operator}{r:R2}(ho:OpR X (binaryOp op) r) (ha:PE X a ta) (hb:PE X b tb):PE X (.BinOp a op b pos) (tOp r ta tb):=by
  intro pins s σ H Q I h
  exact wpAny_BinOp (binT ha hb I h fun v u s2 x y H2 I2 rx ry q=>ho pins s2 σ H2 x y v u Q I2 rx ry q)
theorem opI {f:Value->Value->Sem Value}{C:Int->Int->Prop}{g:Int->Int->Int}
    (rule:∀ (i j:Int) (t u:Tok) (s:Shared) (Q:Value->Shared->Prop) (E:Value->Shared->Prop),C i j->Q (.int (g i j) s.toks) { s with toks:=s.toks+1 }->wpAny (model X.prog X.w) X.A (f (.int i t) (.int j u)) Q E s) :
    OpR X f (rI C fun i j=>.int (g i j)):=by
  intro pins s σ H x y v u Q I rx ry h
  obtain ⟨i,j,rfl,rfl,hc,q⟩:=h
  obtain ⟨t,rfl⟩:=rx
  obtain ⟨t',rfl⟩:=ry
  exact rule i j t t' s _ _ hc ⟨.int (g i j),H,I.tok _,⟨_,rfl⟩,q⟩
theorem opI0 {f:Value->Value->Sem Value}{g:Int->Int->Int}
    (rule:∀ (i j:Int) (t u:Tok) (s:Shared) (Q:Value->Shared->Prop) (E:Value->Shared->Prop),Q (.int (g i j) s.toks) { s with toks:=s.toks+1 }->wpAny (model X.prog X.w) X.A (f (.int i t) (.int j u)) Q E s) :
    OpR X f (rI0 fun i j=>.int (g i j)):=by
  intro pins s σ H x y v u Q I rx ry h
  obtain ⟨i,j,rfl,rfl,q⟩:=h
  obtain ⟨t,rfl⟩:=rx
  obtain ⟨t',rfl⟩:=ry
  exact rule i j t t' s _ _ ⟨.int (g i j),H,I.tok _,⟨_,rfl⟩,q⟩
theorem opB0 {f:Value->Value->Sem Value}{g:Int->Int->Bool}
    (rule:∀ (i j:Int) (t u:Tok) (s:Shared) (Q:Value->Shared->Prop) (E:Value->Shared->Prop),Q (.bool (g i j)) s->wpAny (model X.prog X.w) X.A (f (.int i t) (.int j u)) Q E s) :
    OpR X f (rI0 fun i j=>.bl (g i j)):=by
  intro pins s σ H x y v u Q I rx ry h
  obtain ⟨i,j,rfl,rfl,q⟩:=h
  obtain ⟨t,rfl⟩:=rx
  obtain ⟨t',rfl⟩:=ry
  exact rule i j t t' s _ _ ⟨.bl (g i j),H,I,rfl,q⟩
def CDiv (i j:Int):Prop:=0<j/\j<1073741824
def CPow (i j:Int):Prop:=0<=j/\j<=1000000/\i.natAbs<2 ^ 64
theorem op_sub:OpR X (binaryOp .Sub) (rI0 fun i j=>.int (i - j)):=opI0 fun _ _ _ _ _ _ _ q=>sub_int q
theorem op_fdiv:OpR X (binaryOp .FloorDiv) (rI CDiv fun i j=>.int (i / j)):=opI fun i j _ _ _ _ _ hc q=>by
  have h1:(0:Int)<j:=hc.1
  have h2:j<1073741824:=hc.2
  exact floordiv_int (by omega) (by rw [Int.fdiv_eq_ediv_of_nonneg i (by omega)];exact q) (.inl (PyProof.noPylong_small (by omega)))
theorem op_mod:OpR X (binaryOp .Mod) (rI (fun _ j=>0<j) fun i j=>.int (i % j)):=opI fun i j _ _ _ _ _ hc q=>by
  have h1:(0:Int)<j:=hc
  exact mod_int' (by omega) (by rw [Int.fmod_eq_emod_of_nonneg i (by omega)];exact q)
theorem op_pow:OpR X (binaryOp .Pow) (rI CPow fun i j=>.int (i ^ j.toNat)):=opI fun _ _ _ _ _ _ _ hc q=>pow_int_small hc.1 hc.2.1 hc.2.2 q
end
def scal:V->V->Bool
  | .non,.non=>true | .non,.int _=>true | .int _,.non=>true | .non,.bl _=>true | .bl _,.non=>true | .non,.str _=>true | .str _,.non=>true
  | .int _,.int _=>true | .bl _,.bl _=>true | .str _,.str _=>true | .byt _,.byt _=>true
  | .int _,.str _=>true | .str _,.int _=>true | .bl _,.str _=>true | .str _,.bl _=>true
  | _,_=>false
def rEq:R2:=fun x y H Q=>scal x y=true/\Q (.bl (decide (x=y))) H
def rNe:R2:=fun x y H Q=>scal x y=true/\Q (.bl (!decide (x=y))) H
theorem dec_int {i j:Int}:decide (V.int i=V.int j)=(i==j):=by
  rw [Bool.eq_iff_iff]
  simp
theorem dec_bl {i j:Bool}:decide (V.bl i=V.bl j)=(i==j):=by
  rw [Bool.eq_iff_iff]
  simp
theorem dec_str {i j:Str}:decide (V.str i=V.str j)=(i==j):=by
  rw [Bool.eq_iff_iff]
  simp
theorem dec_byt {i j:Array UInt8}:decide (V.byt i=V.byt j)=(i.toList==j.toList):=by
  rw [Bool.eq_iff_iff]
  cases i
  cases j
  simp
section
variable {X:Cx}{a b c:Expr}{ta tb tc:TE}{pos:Pos}
theorem fin_bl {pins:List (Addr×Obj)}{σ:St}{H:Hp}{s:Shared}{Q:VK}{k k':Bool}(I:Inv X pins σ H s) (q:Q (.bl k) H) (e:k=k'):EP X pins σ Q (.bool k') s:=by
  subst e
  exact ⟨.bl k,H,I,rfl,q⟩
theorem op_eq:OpR X (compareOp .Eq) rEq:=by
  intro pins s σ H x y v u Q I rx ry h
  obtain ⟨hs,q⟩:=h
  cases x with
  | non =>
    cases rx
    cases y with
    | non=>cases ry;exact PySem.EqNone.eq_none_none (fin_bl I q (by simp))
    | bl j=>cases ry;exact PySem.EqNone.eq_none_bool (fin_bl I q (by simp))
    | int j=>obtain ⟨t',rfl⟩:=ry;exact PySem.EqNone.eq_none_int (fin_bl I q (by simp))
    | str j=>obtain ⟨t',rfl⟩:=ry;exact PySem.EqNone.eq_none_str (fin_bl I q (by simp))
    | _=>exact absurd (show false=true from hs) Bool.false_ne_true
  | bl i =>
    cases rx
    cases y with
    | non=>cases ry;exact PySem.EqNone.eq_bool_none (fin_bl I q (by simp))
    | bl j=>cases ry;exact eq_bool (fin_bl I q dec_bl)
    | str j=>obtain ⟨t',rfl⟩:=ry;exact PySem.EqMixed.eq_bool_str (fin_bl I q (by simp))
    | _=>exact absurd (show false=true from hs) Bool.false_ne_true
  | int i =>
    obtain ⟨t,rfl⟩:=rx
    cases y with
    | non=>cases ry;exact PySem.EqNone.eq_int_none (fin_bl I q (by simp))
    | int j=>obtain ⟨t',rfl⟩:=ry;exact eq_int (fin_bl I q dec_int)
    | str j=>obtain ⟨t',rfl⟩:=ry;exact PySem.EqMixed.eq_int_str (fin_bl I q (by simp))
    | _=>exact absurd (show false=true from hs) Bool.false_ne_true
  | str i =>
    obtain ⟨t,rfl⟩:=rx
    cases y with
    | non=>cases ry;exact PySem.EqNone.eq_str_none (fin_bl I q (by simp))
    | bl j=>cases ry;exact PySem.EqMixed.eq_str_bool (fin_bl I q (by simp))
    | int j=>obtain ⟨t',rfl⟩:=ry;exact PySem.EqMixed.eq_str_int (fin_bl I q (by simp))
    | str j=>obtain ⟨t',rfl⟩:=ry;exact eq_str (fin_bl I q dec_str)
    | _=>exact absurd (show false=true from hs) Bool.false_ne_true
  | byt i =>
    obtain ⟨t,rfl⟩:=rx
    cases y with
    | byt j=>obtain ⟨t',rfl⟩:=ry;exact PySem.W.eq_bytes (fin_bl I q dec_byt)
    | _=>exact absurd (show false=true from hs) Bool.false_ne_true
  | _=>cases y <;> exact absurd (show false=true from hs) Bool.false_ne_true
theorem op_ne:OpR X (compareOp .NotEq) rNe:=by
  intro pins s σ H x y v u Q I rx ry h
  obtain ⟨hs,q⟩:=h
  cases x with
  | non =>
    cases rx
    cases y with
    | non=>cases ry;exact PySem.EqNone.ne_none_none (fin_bl I q (by simp))
    | bl j=>cases ry;exact PySem.EqNone.ne_none_bool (fin_bl I q (by simp))
    | int j=>obtain ⟨t',rfl⟩:=ry;exact PySem.EqNone.ne_none_int (fin_bl I q (by simp))
    | str j=>obtain ⟨t',rfl⟩:=ry;exact PySem.EqNone.ne_none_str (fin_bl I q (by simp))
    | _=>exact absurd (show false=true from hs) Bool.false_ne_true
  | bl i =>
    cases rx
    cases y with
    | non=>cases ry;exact PySem.EqNone.ne_bool_none (fin_bl I q (by simp))
    | bl j=>cases ry;exact ne_bool (fin_bl I q (congrArg not dec_bl))
    | str j=>obtain ⟨t',rfl⟩:=ry;exact PySem.EqMixed.ne_bool_str (fin_bl I q (by simp))
    | _=>exact absurd (show false=true from hs) Bool.false_ne_true
  | int i =>
    obtain ⟨t,rfl⟩:=rx
    cases y with
    | non=>cases ry;exact PySem.EqNone.ne_int_none (fin_bl I q (by simp))
    | int j=>obtain ⟨t',rfl⟩:=ry;exact ne_int (fin_bl I q (congrArg not dec_int))
    | str j=>obtain ⟨t',rfl⟩:=ry;exact PySem.EqMixed.ne_int_str (fin_bl I q (by simp))
    | _=>exact absurd (show false=true from hs) Bool.false_ne_true
  | str i =>
    obtain ⟨t,rfl⟩:=rx
    cases y with
    | non=>cases ry;exact PySem.EqNone.ne_str_none (fin_bl I q (by simp))
    | bl j=>cases ry;exact PySem.EqMixed.ne_str_bool (fin_bl I q (by simp))
    | int j=>obtain ⟨t',rfl⟩:=ry;exact PySem.EqMixed.ne_str_int (fin_bl I q (by simp))
    | str j=>obtain ⟨t',rfl⟩:=ry;exact ne_str (fin_bl I q (congrArg not dec_str))
    | _=>exact absurd (show false=true from hs) Bool.false_ne_true
  | byt i =>
    obtain ⟨t,rfl⟩:=rx
    cases y with
    | byt j=>obtain ⟨t',rfl⟩:=ry;exact PySem.W.ne_bytes (fin_bl I q (congrArg not dec_byt))
    | _=>exact absurd (show false=true from hs) Bool.false_ne_true
  | _=>cases y <;> exact absurd (show false=true from hs) Bool.false_ne_true
theorem op_lt:OpR X (compareOp .Lt) (rI0 fun i j=>.bl (decide (i<j))):=opB0 fun _ _ _ _ _ _ _ q=>lt_int q
theorem op_le:OpR X (compareOp .LtE) (rI0 fun i j=>.bl (decide (i<=j))):=opB0 fun _ _ _ _ _ _ _ q=>le_int q
theorem op_gt:OpR X (compareOp .Gt) (rI0 fun i j=>.bl (decide (j<i))):=opB0 fun _ _ _ _ _ _ _ q=>gt_int q
theorem op_ge:OpR X (compareOp .GtE) (rI0 fun i j=>.bl (decide (j<=i))):=opB0 fun _ _ _ _ _ _ _ q=>ge_int q
theorem op_isN:OpR X (compareOp .Is) (fun x y H Q=>y=.non/\Q (.bl (decide (x=.non))) H):=by
  intro pins s σ H x y v u Q I rx ry h
  obtain ⟨rfl,q⟩:=h
  cases ry
  refine is_none_gen (fin_bl I q ?_)
  cases x <;> first
    | (cases rx;rfl)
    | (obtain ⟨t,rfl⟩:=rx;rfl)
theorem op_notN:OpR X (compareOp .IsNot) (fun x y H Q=>y=.non/\Q (.bl (!decide (x=.non))) H):=by
  intro pins s σ H x y v u Q I rx ry h
  obtain ⟨rfl,q⟩:=h
  cases ry
  refine isnot_none_gen (fin_bl I q ?_)
  cases x <;> first
    | (cases rx;rfl)
    | (obtain ⟨t,rfl⟩:=rx;rfl)
theorem op_notin_str:OpR X (compareOp .NotIn) (fun x y H Q=>∃ i j,x=.str i/\y=.str j/\Q (.bl (!(!(Builtin.Str.occurrences j i 0 j.length 1).isEmpty))) H):=by
  intro pins s σ H x y v u Q I rx ry h
  obtain ⟨i,j,rfl,rfl,q⟩:=h
  obtain ⟨t,rfl⟩:=rx
  obtain ⟨t',rfl⟩:=ry
  exact notIn_str (fin_bl I q rfl)
theorem nomark (b:Expr) {op:CmpOp}(h:op≠.In:=by decide) (h2:op≠.NotIn:=by decide):behindInMarks op b=false:=by
  have e1:(op==CmpOp.In)=false:=by cases op <;> first | rfl | exact absurd rfl h
  have e2:(op==CmpOp.NotIn)=false:=by cases op <;> first | rfl | exact absurd rfl h2
  cases b <;> simp [behindInMarks,e1,e2]
theorem pe_cmpR {op:CmpOp}{r:R2}(ho:OpR X (compareOp op) r) (ha:PE X a ta) (hb:PE X b tb) (hm:behindInMarks op b=false):PE X (.Compare a [op] [b] pos) (tOp r ta tb):=by
  intro pins s σ H Q I h
  exact wpAny_Compare1 (binT ha hb I h fun v u s2 x y H2 I2 rx ry q=>ho pins s2 σ H2 x y v u Q I2 rx ry q) hm
def tTest (t:TE):TT:=fun σ H Q=>t σ H fun x H'=>∃ k,x=.bl k/\Q k H'
theorem pt_cmpR {op:CmpOp}{r:R2}(ho:OpR X (compareOp op) r) (ha:PE X a ta) (hb:PE X b tb) (hm:behindInMarks op b=false):PT X (.Compare a [op] [b] pos) (tTest (tOp r ta tb)):=by
  intro pins s σ H Q I h
  refine wpAny_isTrue_Compare1 (thn (ha pins s σ H _ I h) fun v s1 ⟨x,H1,I1,r1,q1⟩=>thn (hb pins s1 σ H1 _ I1 q1) fun u s2 ⟨y,H2,I2,r2,q2⟩ =>
    thn (ho pins s2 σ H2 x y v u _ I2 r1 r2 q2) fun c s3 ⟨z,H3,I3,r3,k,e,q3⟩=>?_) hm
  subst e
  cases r3
  exact wpAny_truthy_bool ⟨H3,I3,q3⟩
def TruV (K:PySem.W.Frag) (x:V) (H:Hp) (k:Bool):Prop :=
  match x with
  | .non=>k=false
  | .bl b=>k=b
  | .int i=>k=(i != 0)
  | .str y=>y.length<=sizeLine/\k=((y.length:Int) != 0)
  | .byt y=>y.size<=sizeLine/\k=((y.size:Int) != 0)
  | .ref p=>(∃ xs,SqL K H p xs/\k=!xs.isEmpty)\/(∃ xs,SqT K H p xs/\k=!xs.isEmpty)\/∃ kvs,H p=some (.dK kvs)/\k=!kvs.isEmpty
  | _=>False
theorem isEmpty_kv {κ:Type}{kvs:List (κ×V)}{vs:List (κ×Value)}(r:KV kvs vs):(!vs.isEmpty)=!kvs.isEmpty:=by
  cases r <;> rfl
theorem isEmpty_of {xs:List V}{its:List Value}(r:Vals xs its):(!its.toArray.isEmpty)=!xs.isEmpty:=by
  cases r <;> simp
theorem line63:(sizeLine:Nat)<2 ^ 63:=by rw [sizeLine_eq];decide
theorem tru_ok:TruR X (fun x H Q=>∃ k,TruV X.K x H k/\Q k H):=by
  intro pins s σ H x v Q I rx h
  obtain ⟨k,e,q⟩:=h
  have hl:=line63
  have hs:sizeLine=16777216:=sizeLine_eq
  cases x with
  | non =>
    cases rx
    have e':k=false:=e
    subst e'
    exact truthy_none ⟨H,I,q⟩
  | bl b =>
    cases rx
    have e':k=b:=e
    subst e'
    exact wpAny_truthy_bool ⟨H,I,q⟩
  | int i =>
    obtain ⟨t,rfl⟩:=rx
    have e':k=(i != 0):=e
    subst e'
    exact PySem.P.truthy_int ⟨H,I,q⟩
  | str y =>
    obtain ⟨t,rfl⟩:=rx
    obtain ⟨hy,e'⟩:y.length<=sizeLine/\k=((y.length:Int) != 0):=e
    subst e'
    exact PySem.P.truthy_str (by omega) ⟨H,I.tok _,q⟩
  | byt y =>
    obtain ⟨t,rfl⟩:=rx
    obtain ⟨hy,e'⟩:y.size<=sizeLine/\k=((y.size:Int) != 0):=e
    subst e'
    exact PySem.W.truthy_bytes (by omega) ⟨H,I.tok _,q⟩
  | ref p =>
    cases rx
    have e':(∃ xs,SqL X.K H p xs/\k=!xs.isEmpty)\/(∃ xs,SqT X.K H p xs/\k=!xs.isEmpty)\/∃ kvs,H p=some (.dK kvs)/\k=!kvs.isEmpty:=e
    rcases e' with ⟨xs,hx,e'⟩ | ⟨xs,hx,e'⟩ | ⟨kvs,hx,e'⟩
    · subst e'
      obtain ⟨its,r,pl,hz⟩:=I.list hx
      have hlen:=r.length
      exact wpAny_truthy_list pl.isList (by simp only [List.size_toArray];omega) ⟨H,I.tok _,by rw [isEmpty_of r];exact q⟩
    · subst e'
      obtain ⟨its,r,pl,hz⟩:=I.tuple hx
      have hlen:=r.length
      exact truthy_tuple pl (by simp only [List.size_toArray];omega) ⟨H,I.tok _,by rw [isEmpty_of r];exact q⟩
    · subst e'
      obtain ⟨hz,hS,vs,r,m⟩:kvs.length<=sizeLine/\(p==sysModules)=false/\∃ vs,KV kvs vs/\s.heap.DictOf (mixKind X.prog X.w) p vs:=I.hok p _ hx
      have hlen:kvs.length=vs.length:=Paired.length r
      exact wpAny_truthy_dict hS m (by omega) ⟨H,I.tok _,by rw [isEmpty_kv r];exact q⟩
  | _=>exact (show False from e).elim
theorem pt_truth (ha:PE X a ta) (he:∀ whole,isTrue a X.env whole=(do let v <- whole;standAt a.pos;holding [v] (truthy v))) :
    PT X a (fun σ H Q=>ta σ H fun x H'=>∃ k,TruV X.K x H' k/\Q k H'):=by
  intro pins s σ H Q I h
  exact isTrue_plain (thn (ha pins s σ H _ I h) fun v s1 ⟨x,H1,I1,r1,q1⟩=>tru_ok pins s1 σ H1 x v Q I1 r1 q1) (he _)
theorem op_add_str:OpR X (binaryOp .Add) (fun x y H Q=>∃ i j,x=.str i/\y=.str j/\i.length+j.length<=sizeLine/\Q (.str (i++j)) H):=by
  intro pins s σ H x y v u Q I rx ry h
  obtain ⟨i,j,rfl,rfl,hz,q⟩:=h
  obtain ⟨t,rfl⟩:=rx
  obtain ⟨t',rfl⟩:=ry
  exact add_str (fun t' tk=>⟨.str (i++j),H,I.tok _,⟨_,rfl⟩,q⟩) hz
theorem vals1 {x:V}{us:List Value}(r:Vals [x] us):∃ u,us=[u]/\RelV x u:=by
  cases r with
  | cons r1 r2=>cases r2;exact ⟨_,rfl,r1⟩
theorem vals2 {x y:V}{us:List Value}(r:Vals [x,y] us):∃ u w',us=[u,w']/\RelV x u/\RelV y w':=by
  cases r with
  | cons r1 r2 =>
    cases r2 with
    | cons r3 r4=>cases r4;exact ⟨_,_,rfl,r1,r3⟩
theorem call_abs:CallR X (.builtin "abs") (fun xs H Q=>∃ i,xs=[.int i]/\Q (.int (if i<0 then -i else i)) H):=by
  intro pins s σ H xs us Q I r h
  obtain ⟨i,rfl,q⟩:=h
  obtain ⟨u,rfl,t,rfl⟩:=vals1 r
  exact call_abs_int fun u tk=>⟨.int (if i<0 then -i else i),H,I.tok _,⟨_,rfl⟩,q⟩
theorem call_str_int:CallR X (.type "str") (fun xs H Q=>∃ i,xs=[.int i]/\i.natAbs.log2<1920/\Q (.str (toString i)) H):=by
  intro pins s σ H xs us Q I r h
  obtain ⟨i,rfl,hz,q⟩:=h
  obtain ⟨u,rfl,t,rfl⟩:=vals1 r
  exact PySem.P.str_of_int hz ⟨.str _,H,I.tok _,⟨_,rfl⟩,q⟩
end
end L2
namespace L2
open PySem PySem.Spec PyProof.Rows
structure ObjM (h:Heap) (x dx C:Addr) (mA:Str->Option Value):Prop where
  obj:h.get? x=some (PySem.W.instObj C dx)
  ns:h.Ns1 dx mA
  ne:dx≠x
theorem lookIn_ns {h:Heap}{dx:Addr}{mA:Str->Option Value}(n:h.Ns1 dx mA):∃ od,h.get? dx=some od/\∀ name,PySem.W.lookIn name od=some (mA name):=by
  obtain ⟨o,es,ep,ho,hd,hk,_,hm⟩:=n
  refine ⟨o,ho,fun name=>?_⟩
  have e:=hm name
  unfold nsFind findBy at e
  rw [<- Array.find?_toList] at e
  unfold PySem.W.lookIn
  rw [hd]
  dsimp only
  split
  · rename_i y q
    rw [q] at e
    exact congrArg some e
  · rename_i q
    rw [q] at e
    have a:es.toList.any (·.refKey)=false:=by
      rw [List.any_eq_false]
      intro y hy
      obtain ⟨z,t,hkey⟩:=hk y (Array.mem_toList_iff.mp hy)
      simp [DictEntry.refKey,hkey]
    have a':¬ es.toList.any (·.refKey)=true:=by rw [a];exact Bool.false_ne_true
    rw [if_neg a']
    exact congrArg some e
theorem ObjM.look {h:Heap}{x dx C:Addr}{mA:Str->Option Value}(I:ObjM h x dx C mA):∃ od,PySem.W.InstAt h x (PySem.W.instObj C dx) C (some od)/\∀ name,PySem.W.lookIn name od=some (mA name) :=
  let ⟨od,ho,hl⟩:=lookIn_ns I.ns
  ⟨od,⟨I.obj,rfl,rfl,ho⟩,hl⟩
section
variable {prog:Program}{w:World}{A:Around}{E:Value->Shared->Prop}{s:Shared}{K:PySem.W.Frag}{x dx C f:Addr}{mA:Str->Option Value}{name:Str}{v:Value}
theorem get_map {expr:Bool}{Q:Value->Shared->Prop}(X:K.In s.heap) (I:ObjM s.heap x dx C mA) (hg:PySem.W.plainGet K C name=true) (hh:PySem.W.hasDictIn K C=true)
    (ha:PySem.W.findIn K (.ref C) name=some none) (hv:mA name=some v) (hv':PySem.W.handedIn v=true) (h:Q v { s with toks:=s.toks+1 }) :
    wpAny (model prog w) A (getAttr (.ref x) name expr) Q E s:=by
  obtain ⟨od,J,hl⟩:=I.look
  exact PySem.W.get_value X J (PySem.W.plainGet_of hg).1 (PySem.W.findObj_own hh ha rfl (by rw [hl,hv])) hv' h
theorem get_meth {pl:Sem Bool}{Q:Value×List Value->Shared->Prop}(X:K.In s.heap) (I:ObjM s.heap x dx C mA) (hg:PySem.W.plainGet K C name=true)
    (hf:PySem.W.findIn K (.ref C) name=some (some (.ref f))) (ht:PySem.W.isFn K (.ref f)=true) (hv:mA name=none) (h:Q (.ref f,[.ref x]) s) :
    wpAny (model prog w) A (getMethod (.ref x) name pl) Q E s:=by
  obtain ⟨od,J,hl⟩:=I.look
  exact PySem.W.method_fn X J (PySem.W.plainGet_of hg).1 (PySem.W.plainGet_of hg).2 hf (beq_iff_eq.mp ht) (by show (PySem.W.lookIn name od).map (·.isSome)=some false;rw [hl,hv];rfl) h
theorem set_map {ns:List Str}{Q:Unit->Shared->Prop}(X:K.In s.heap) (I:ObjM s.heap x dx C mA)
    (hs:PySem.W.findIn K (.ref C) "__setattr__"=some (some (.builtin "object.__setattr__"))) (hp:PySem.W.plainOver K C=true) (ht:PySem.W.takerIn K C name=some none) (hh:PySem.W.hasDictIn K C=true)
    (hw:PySem.Within mA ns) (hsz:ns.length<=sizeLine)
    (h:∀ h',ObjM h' x dx C (fun y=>if y=name then some v else mA y)->Heap.SameBut dx s.heap h'->Q () { s with heap:=h',toks:=s.toks+2 }) :
    wpAny (model prog w) A (setAttr (.ref x) name v) Q E s:=by
  obtain ⟨od,J,hl⟩:=I.look
  refine PySem.W.set_plain X J hs (PySem.W.osa_open (s:={ s with toks:=s.toks+1 }) (r:=none) X J hp ht fun b=>?_)
  obtain ⟨cd,hc,hd'⟩:=PySem.W.any_some hh
  have hx:s.heap.get? x=some ⟨.ref C,some dx,.plain,#[]⟩:=I.obj
  refine wpAny_bind (wpAny_pure (wpAny_bind (wpAny_bind (wpAny_loadPart hx (wpAny_bind (PySem.W.Looks.here (s:={ s with toks:=s.toks+1 }) (PySem.W.looks_clsIn X hc) ?_))))))
  rw [hd']
  refine wpAny_pure (a:=some dx) (wpAny_bind (wpAny_pure (wpAny_bind ?_)))
  refine wpAny_nsSet1 (s:={ s with toks:=s.toks+1 }) I.ns fun h' hn2 hs2=>?_
  obtain ⟨oD,esD,epD,hoD,hdD,hcD⟩:=hn2.count (PySem.Within.cons name v hw)
  refine wpAny_bind (wpAny_lookBehind hoD (by rw [hdD];exact pastItsLine_dict (Nat.le_trans hcD (by rw [zLC];omega))) ?_)
  exact wpAny_pure (h _ ⟨(hs2.2 _ (Ne.symm I.ne)).trans I.obj,hn2,I.ne⟩ hs2)
theorem make_map {R:Result->Shared->Prop}{vs:List Value}{kw:List (Str×Value)}(X:K.In s.heap) (hm:PySem.W.makesIn K C=true)
    (hi:PySem.W.findIn K (.ref C) "__init__"=some (some (.ref f))) (hf:PySem.W.typeIn K (.ref f)=some (.type "function"))
    (h:codeAny (model prog w) (A.under (.builtin "type.__call__" ⟨.ref C::vs,kw⟩)) (.call (.ref f) ⟨.ref (s.heap.objs.size+1)::vs,kw⟩) (PySem.W.InitBack (s.heap.objs.size+1) R)
      { s with heap:=(s.heap.push PySem.W.emptyDict).push (PySem.W.instObj C s.heap.objs.size) }) :
    codeAny (model prog w) A (.call (.ref C) ⟨vs,kw⟩) R s:=by
  obtain ⟨hh,g,d,t,os⟩:=s
  exact PySem.W.make_core (PySem.W.makes_of X hm) (PySem.W.looks_findIn X hi) (fun self=>PySem.W.bind_fn X self hf) (.inl rfl) h
end
def putF (f:Str) (v:V):List (Str×V)->List (Str×V)
  | []=>[(f,v)]
  | (g,x)::r=>if g=f then (g,v)::r else (g,x)::putF f v r
theorem lookup_putF (f g:Str) (v:V):∀ fs:List (Str×V),(putF f v fs).lookup g=if g=f then some v else fs.lookup g
  | []=>by
    show List.lookup g [(f,v)]=_
    by_cases h:g=f
    · have hb:(g==f)=true:=beq_iff_eq.mpr h
      simp only [List.lookup,hb,if_pos h]
    · have hb:(g==f)=false:=beq_eq_false_iff_ne.mpr h
      simp only [List.lookup,hb,if_neg h]
  | (k, x)::r=>by
    have ih:=lookup_putF f g v r
    rw [show putF f v ((k,x)::r)=(if k=f then (k,v)::r else (k,x)::putF f v r) from rfl]
    by_cases hk:k=f
    · rw [if_pos hk]
      by_cases h:g=k
      · have hb:(g==k)=true:=beq_iff_eq.mpr h
        simp only [List.lookup,hb,if_pos (h.trans hk)]
      · have hb:(g==k)=false:=beq_eq_false_iff_ne.mpr h
        simp only [List.lookup,hb,if_neg (fun e:g=f=>h (e.trans hk.symm))]
    · rw [if_neg hk]
      by_cases h:g=k
      · have hb:(g==k)=true:=beq_iff_eq.mpr h
        simp only [List.lookup,hb,if_neg (fun e:g=f=>hk (h.symm.trans e))]
      · have hb:(g==k)=false:=beq_eq_false_iff_ne.mpr h
        simp only [List.lookup,hb]
        exact ih
theorem keys_putF (f:Str) (v:V):∀ fs:List (Str×V),f∈(putF f v fs).map (·.1)/\∀ g,g∈fs.map (·.1)->g∈(putF f v fs).map (·.1)
  | []=>⟨by simp [putF],fun g h=>by simp at h⟩
  | (k, x)::r=>by
    obtain ⟨i1,i2⟩:=keys_putF f v r
    rw [show putF f v ((k,x)::r)=(if k=f then (k,v)::r else (k,x)::putF f v r) from rfl]
    by_cases hk:k=f
    · rw [if_pos hk]
      subst hk
      exact ⟨by simp,fun g h=>by simpa using h⟩
    · rw [if_neg hk]
      refine ⟨?_,fun g h=>?_⟩
      · rw [List.map_cons]
        exact List.mem_cons_of_mem _ i1
      · rw [List.map_cons] at h |-
        rcases List.mem_cons.mp h with e | e
        · exact List.mem_cons.mpr (.inl e)
        · exact List.mem_cons_of_mem _ (i2 g e)
theorem length_putF (f:Str) (v:V):∀ fs:List (Str×V),(putF f v fs).length<=fs.length+1
  | []=>by simp [putF]
  | (k,x)::r=>by
    have ih:=length_putF f v r
    rw [show putF f v ((k,x)::r)=(if k=f then (k,v)::r else (k,x)::putF f v r) from rfl]
    by_cases hk:k=f
    · rw [if_pos hk,zLC,zLC];omega
    · rw [if_neg hk,zLC,zLC];omega
theorem RelO.some_of {v:V}{o:Option Value}(r:RelO (some v) o):∃ u,o=some u/\RelV v u:=by
  cases o with
  | none=>exact (show False from r).elim
  | some u=>exact ⟨u,rfl,r⟩
theorem RelO.none_of {o:Option Value}(r:RelO none o):o=none:=by
  cases o with
  | none=>rfl
  | some u=>exact (show False from r).elim
theorem handed_of {v:V}{u:Value}(r:RelV v u):PySem.W.handedIn u=true:=by
  cases v with
  | non=>cases (show u=Value.none from r);rfl
  | bl b=>cases (show u=Value.bool b from r);rfl
  | int i=>obtain ⟨t,e⟩:=(show ∃ t,u=Value.int i t from r);cases e;rfl
  | str x=>obtain ⟨t,e⟩:=(show ∃ t,u=Value.str x t from r);cases e;rfl
  | byt b=>obtain ⟨t,e⟩:=(show ∃ t,u=Value.bytes b t from r);cases e;rfl
  | flt b=>obtain ⟨t,e⟩:=(show ∃ t,u=Value.float b t from r);cases e;rfl
  | ref a=>cases (show u=Value.ref a from r);rfl
  | ty n=>cases (show u=Value.type n from r);rfl
section
variable {P:Program}{w:World}{H H':Hp}{h h':Heap}{a C dx:Addr}{fs fs':List (Str×V)}
theorem ins_get (hok:HOk P w H h) (e:H a=some (.ins C dx fs)):∃ mA,ObjM h a dx C mA/\(∀ f,RelO (fs.lookup f) (mA f))/\PySem.Within mA (fs.map (·.1))/\fs.length<=1000/\H dx=some (.own a):=by
  obtain ⟨d,z,ne,ob,mA,n,r,q⟩:=(show ObjOk P w H h a (.ins C dx fs) from hok a _ e)
  exact ⟨mA,⟨ob,n,ne⟩,r,q,z,d⟩
end
structure Cls (K:PySem.W.Frag) (C:Addr):Prop where
  pg:PySem.W.plainGet K C Str.empty=true
  hd:PySem.W.hasDictIn K C=true
  po:PySem.W.plainOver K C=true
  sa:PySem.W.findIn K (.ref C) "__setattr__"=some (some (.builtin "object.__setattr__"))
theorem Cls.get {K:PySem.W.Frag}{C:Addr}(c:Cls K C) (f:Str):PySem.W.plainGet K C f=true:=c.pg
def NoAttr (K:PySem.W.Frag) (C:Addr) (f:Str):Prop:=PySem.W.findIn K (.ref C) f=some none
theorem NoAttr.taker {K:PySem.W.Frag}{C:Addr}{f:Str}(n:NoAttr K C f):PySem.W.takerIn K C f=some none:=by
  unfold PySem.W.takerIn
  rw [show PySem.W.findIn K (.ref C) f=some none from n]
  rfl
structure Meth (K:PySem.W.Frag) (C:Addr) (m:Str) (f:Addr):Prop where
  at_:PySem.W.findIn K (.ref C) m=some (some (.ref f))
  fn:PySem.W.isFn K (.ref f)=true
  kp:PySem.W.keepIn K (.ref f)=true
section
variable {X:Cx}{pins:List (Addr×Obj)}{σ:St}{H:Hp}{s:Shared}{a C dx:Addr}{fs:List (Str×V)}{f:Str}{v:V}{A:Around}{E:Value->Shared->Prop}
theorem getattr_ok {b:Bool}{Q:Value->Shared->Prop}(I:Inv X pins σ H s) (e:H a=some (.ins C dx fs)) (c:Cls X.K C) (n:NoAttr X.K C f) (l:fs.lookup f=some v)
    (h:∀ u s',Inv X pins σ H s'->RelV v u->Q u s'):wpAny (model X.prog X.w) A (getAttr (.ref a) f b) Q E s:=by
  obtain ⟨mA,O,r,_,_,_⟩:=ins_get I.hok e
  obtain ⟨u,hu,ru⟩:=RelO.some_of (v:=v) (o:=mA f) (by rw [<- l];exact r f)
  exact get_map I.kIn O (c.get f) c.hd n hu (handed_of ru) (h u _ (I.tok _) ru)
theorem getmeth_ok {m:Str}{g:Addr}{pl:Sem Bool}{Q:Value×List Value->Shared->Prop}(I:Inv X pins σ H s) (e:H a=some (.ins C dx fs)) (c:Cls X.K C) (k:Meth X.K C m g) (l:fs.lookup m=none)
    (h:Q (.ref g,[.ref a]) s):wpAny (model X.prog X.w) A (getMethod (.ref a) m pl) Q E s:=by
  obtain ⟨mA,O,r,_,_,_⟩:=ins_get I.hok e
  have hn:mA m=none:=RelO.none_of (by rw [<- l];exact r m)
  exact get_meth I.kIn O (c.get m) k.at_ k.fn hn h
theorem setattr_ok {y:V}{u:Value}{Q:Unit->Shared->Prop}(I:Inv X pins σ H s) (e:H a=some (.ins C dx fs)) (c:Cls X.K C) (n:NoAttr X.K C f) (hl:fs.length<1000) (ry:RelV y u)
    (h:∀ s',Inv X pins σ (upd H a (.ins C dx (putF f y fs))) s'->Q () s'):wpAny (model X.prog X.w) A (setAttr (.ref a) f u) Q E s:=by
  obtain ⟨mA,O,r,wi,_,ho⟩:=ins_get I.hok e
  have hz:(fs.map (·.1)).length<=sizeLine:=by rw [zLM,sizeLine_eq];omega
  refine set_map I.kIn O c.sa c.po n.taker c.hd wi hz fun h' O' sb=>h _ ?_
  have hd:∃ o,h'.get? dx=some o:=let ⟨o,_,_,e',_⟩:=O'.ns;⟨o,e'⟩
  refine I.write (x:=a) (e:=dx) (by rw [e];exact True.intro) (.inr ho) (fun b q hb z=>(sb.2 b hb).trans z) hd ?_
  refine ⟨by rw [upd_ne O.ne];exact ho,?_,O.ne,O'.obj,_,O'.ns,fun g=>?_,fun g hg=>?_⟩
  · have:=length_putF f y fs;omega
  · show RelO ((putF f y fs).lookup g) (if g=f then some u else mA g)
    rw [lookup_putF]
    by_cases q:g=f
    · rw [if_pos q,if_pos q];exact ry
    · rw [if_neg q,if_neg q];exact r g
  · by_cases q:g=f
    · rw [q];exact (keys_putF f y fs).1
    · refine (keys_putF f y fs).2 g (wi g fun z=>hg ?_)
      show (if g=f then some u else mA g)=none
      rw [if_neg q];exact z
theorem Inv.made (I:Inv X pins σ H s):Inv X pins σ (upd (upd H s.heap.objs.size (.own (s.heap.objs.size+1))) (s.heap.objs.size+1) (.ins C s.heap.objs.size []))
    { s with heap:=(s.heap.push PySem.W.emptyDict).push (PySem.W.instObj C s.heap.objs.size) }:=by
  have e1:(s.heap.push PySem.W.emptyDict).get? s.heap.objs.size=some PySem.W.emptyDict:=Heap.get?_push_size s.heap rfl
  have e2:((s.heap.push PySem.W.emptyDict).push (PySem.W.instObj C s.heap.objs.size)).get? (s.heap.objs.size+1)=some (PySem.W.instObj C s.heap.objs.size):=by
    have:=Heap.get?_push_size (s.heap.push PySem.W.emptyDict) (o:=PySem.W.instObj C s.heap.objs.size) rfl
    rwa [Heap.size_push] at this
  have e3:(s.heap.push PySem.W.emptyDict).Ns s.heap.objs.size (fun _=>none):=⟨PySem.W.emptyDict,#[],_,e1,rfl,(fun e he=>absurd he (by simp)),fun _=>rfl⟩
  have I1:=I.laid (a:=s.heap.objs.size) (o:=.own (s.heap.objs.size+1)) (h':=s.heap.push PySem.W.emptyDict) (t':=s.toks) (fun b u q=>Heap.get?_push_of_some _ q) (Nat.le_refl _) ⟨_,e1⟩
  refine I1.laid (a:=s.heap.objs.size+1) (o:=.ins C s.heap.objs.size []) (t':=s.toks) (fun b u q=>Heap.get?_push_of_some _ q) (Nat.le_of_eq (Heap.size_push _ _)) ?_
  have ne:s.heap.objs.size≠s.heap.objs.size+1:=Nat.ne_of_lt (Nat.lt_succ_self _)
  refine ⟨by rw [upd_ne ne,upd_same],Nat.zero_le _,ne,e2,fun _=>none,(Heap.Ns1.of_empty e3).at fun o q=>Heap.get?_push_of_some _ q,fun _=>True.intro,fun y hy=>absurd rfl hy⟩
theorem attr_of {prog:Program}{w:World}{env:Env}{e:Expr}{f:Str}{pos:Pos}{s:Shared}{Q:Value->Shared->Prop}(hb:attributeBase e f env (eval e env)=eval e env)
    (h:wpAny (model prog w) A (eval e env) (fun o s₁=>wpAny (model prog w) A (getAttr o f true) Q E s₁) E s):wpAny (model prog w) A (eval (.Attribute e f pos) env) Q E s :=
  Attribute_any_ h (by rw [arm_eval_Attribute,hb])
end
def tFld (K:PySem.W.Frag) (ta:TE) (f:Str):TE:=fun σ H Q=>ta σ H fun x H1=>∃ a C dx fs v,x=.ref a/\H1 a=some (.ins C dx fs)/\Cls K C/\NoAttr K C f/\fs.lookup f=some v/\Q v H1
def sFld (K:PySem.W.Frag) (ta tv:TE) (f:Str):TS:=fun D σ H=>tv σ H fun y H1=>ta σ H1 fun x H2=>∃ a C dx fs,x=.ref a/\H2 a=some (.ins C dx fs)/\Cls K C/\NoAttr K C f/\fs.length<1000 /\
  D.nx σ (upd H2 a (.ins C dx (putF f y fs)))
section
variable {X:Cx}{o e value:Expr}{f:Str}{pos pos' tpos:Pos}{ta tv:TE}
theorem pe_fld (he:PE X e ta) (hb:attributeBase e f X.env (eval e X.env)=eval e X.env):PE X (.Attribute e f pos) (tFld X.K ta f):=by
  intro pins s σ H Q I h
  refine attr_of hb (thn (he pins s σ H _ I h) fun u s1 ⟨x,H1,I1,rx,a,C,dx,fs,v,ex,ea,c,n,l,q⟩=>?_)
  subst ex
  obtain rfl:u=Value.ref a:=rx
  exact getattr_ok I1 ea c n l fun u' s2 I2 ru=>⟨v,H1,I2,ru,q⟩
theorem ps_fld (ha:PE X o ta) (hv:PE X value tv) (hs:swapsWith value (some (.Attribute o f pos')) pos.line X.env=pure false):PS X (.Assign [.Attribute o f pos'] value pos) (sFld X.K ta tv f):=by
  intro pins s σ H D I h
  refine plainObj_wpAny_Assign_Attribute (thn (hv pins s σ H _ I h) fun u s1 ⟨y,H1,I1,ry,q⟩=>thn (ha pins s1 σ H1 _ I1 q) fun ov s2 ⟨x,H2,I2,rx,a,C,dx,fs,ex,ea,c,n,l,q2⟩=>?_) hs
  subst ex
  obtain rfl:ov=Value.ref a:=rx
  exact setattr_ok I2 ea c n l ry fun s3 I3=>⟨σ,_,I3,q2⟩
end
section
variable {X:Cx}{pins:List (Addr×Obj)}{σ:St}{H:Hp}{s:Shared}{A:Around}{E:Value->Shared->Prop}{Q:Value->Shared->Prop}{c:Value}{b:Bool}
inductive TyOf (K:PySem.W.Frag) (H:Hp):V->Value->Prop where
  | non:TyOf K H .non (.type "NoneType")
  | bl (x:Bool):TyOf K H (.bl x) (.type "bool")
  | int (i:Int):TyOf K H (.int i) (.type "int")
  | str (x:Str):TyOf K H (.str x) (.type "str")
  | flt (x:UInt64):TyOf K H (.flt x) (.type "float")
  | lst {a:Addr}{xs:List V}(e:H a=some (.lst xs)):TyOf K H (.ref a) (.type "list")
  | frz {a:Addr}{o:Obj}{xs:List V}(e:H a=some (.frz o (.lst xs))):TyOf K H (.ref a) (.type "list")
  | tup {a:Addr}{xs:List V}(e:H a=some (.tup xs)):TyOf K H (.ref a) (.type "tuple")
  | dK {a:Addr}{kvs:List (Key×V)}(e:H a=some (.dK kvs)):TyOf K H (.ref a) (.type "dict")
  | dT {a:Addr}{kvs:List (List Key×V)}(e:H a=some (.dT kvs)):TyOf K H (.ref a) (.type "dict")
  | ins {a C dx:Addr}{fs:List (Str×V)}(e:H a=some (.ins C dx fs)) (cl:Cls K C) (ha:PySem.W.findIn K (.ref C) "__class__"=some (some (.builtin "object.__class__")))
      (hn:PySem.W.specialIn K (.builtin "object.__class__") "__get__"=some (some (.builtin "getset_descriptor.__get__"))) (htk:PySem.W.takesIn K (.builtin "object.__class__")=some true)
      (hm:PySem.W.mroIn K C (.type "object")=some true):TyOf K H (.ref a) (.ref C)
theorem isinst_ok {x:V}{u t:Value}(I:Inv X pins σ H s) (rx:RelV x u) (ty:TyOf X.K H x t) (e:PySem.W.kitOne X.K t c=some b) (h:∀ tk,Q (.bool b) { s with toks:=tk }) :
    wpAny (model X.prog X.w) A (call (.builtin "isinstance") [u,c]) Q E s:=by
  cases ty with
  | non=>cases (show u=Value.none from rx);exact PySem.W.kia_one PySem.W.kitx_none I.kIn True.intro e (fun z=>nomatch z) h
  | bl y=>cases (show u=Value.bool y from rx);exact PySem.W.kia_one PySem.W.kitx_bool I.kIn True.intro e (fun z=>nomatch z) h
  | int i=>obtain ⟨t,q⟩:=(show ∃ t,u=Value.int i t from rx);cases q;exact PySem.W.kia_one PySem.W.kitx_int I.kIn True.intro e (fun z=>nomatch z) h
  | str y=>obtain ⟨t,q⟩:=(show ∃ t,u=Value.str y t from rx);cases q;exact PySem.W.kia_one PySem.W.kitx_str I.kIn True.intro e (fun z=>nomatch z) h
  | flt y=>obtain ⟨t,q⟩:=(show ∃ t,u=Value.float y t from rx);cases q;exact PySem.W.kia_one PySem.W.kitx_float I.kIn True.intro e (fun z=>nomatch z) h
  | @lst a xs ea =>
    cases (show u=Value.ref a from rx)
    obtain ⟨_,_,n,_,h1⟩:=(show ObjOk X.prog X.w H s.heap a (.lst xs) from I.hok a _ ea)
    exact PySem.W.kia_one PySem.W.kitx_list I.kIn ⟨_,h1,rfl⟩ e (fun z=>nomatch z) h
  | @frz a ob xs ea =>
    cases (show u=Value.ref a from rx)
    obtain ⟨_,_,_,n,_,h1⟩:=(show ObjOk X.prog X.w H s.heap a (.frz ob (.lst xs)) from I.hok a _ ea)
    exact PySem.W.kia_one PySem.W.kitx_list I.kIn ⟨_,h1,rfl⟩ e (fun z=>nomatch z) h
  | @tup a xs ea =>
    cases (show u=Value.ref a from rx)
    obtain ⟨_,_,_,p⟩:=(show ObjOk X.prog X.w H s.heap a (.tup xs) from I.hok a _ ea)
    obtain ⟨o,h1,h2,_⟩:=p
    exact PySem.W.kia_one PySem.W.kitx_tuple I.kIn ⟨o,h1,h2⟩ e (fun z=>nomatch z) h
  | @dK a kvs ea =>
    cases (show u=Value.ref a from rx)
    obtain ⟨_,_,vs,_,p⟩:=(show ObjOk X.prog X.w H s.heap a (.dK kvs) from I.hok a _ ea)
    obtain ⟨o,es,ep,h1,h2,_⟩:=p
    exact PySem.W.kia_one PySem.W.kitx_dict I.kIn ⟨o,h1,h2.1⟩ e (fun z=>nomatch z) h
  | @dT a kvs ea =>
    cases (show u=Value.ref a from rx)
    obtain ⟨_,_,xs,_,o,es,ep,h1,h2,_⟩:=(show ObjOk X.prog X.w H s.heap a (.dT kvs) from I.hok a _ ea)
    exact PySem.W.kia_one PySem.W.kitx_dict I.kIn ⟨o,h1,h2.1⟩ e (fun z=>nomatch z) h
  | @ins a C dx fs ea cl ha hn htk hm =>
    cases (show u=Value.ref a from rx)
    obtain ⟨mA,O,_⟩:=ins_get I.hok ea
    obtain ⟨od,J,_⟩:=O.look
    exact PySem.W.kia_one (PySem.W.kitx_own (cl.get _) cl.hd ha hn htk hm) I.kIn J e (fun z=>nomatch z) h
end
end L2
namespace L2
open PySem PySem.Spec PyProof.Rows
structure Room (k:Nat) (A:Around):Prop where
  hd:A.handled=none
  dp:A.depth+3 * k+5<recursionLimit
  un:A.units+16 * k+200<cLine
theorem Room.mono {j k:Nat}{A:Around}(r:Room k A) (h:j<=k):Room j A:=⟨r.hd,by have:=r.dp;omega,by have:=r.un;omega⟩
theorem Room.deeper {k:Nat}{A:Around}(r:Room (k+1) A) (env:Env):Room k (A.deeper env) :=
  ⟨r.hd,by have:=r.dp;show A.depth+1+3 * k+5<_;omega,by have:=r.un;show A.units+3+16 * k+200<_;omega⟩
theorem make_depth {A:Around}{C:Addr}{us:List Value}{kw:List (Str×Value)}:(A.under (.builtin "type.__call__" ⟨.ref C::us,kw⟩)).depth=A.depth+1:=by
  first | rfl | simp [Around.under,Code.weight,Code.isCreation,Code.isGuard,Code.isCaller,Code.frames,Code.isFrame,guardIds]
theorem make_units {A:Around}{C:Addr}{us:List Value}{kw:List (Str×Value)}:(A.under (.builtin "type.__call__" ⟨.ref C::us,kw⟩)).units=A.units+1:=by
  first | rfl | simp [Around.under,Code.cUnits,Code.frames,Code.isFrame]
theorem Room.make {k:Nat}{A:Around}(r:Room (k+1) A) (C:Addr) (us:List Value) (kw:List (Str×Value)):Room k (A.under (.builtin "type.__call__" ⟨.ref C::us,kw⟩)) :=
  ⟨r.hd,by have:=r.dp;rw [make_depth];omega,by have:=r.un;rw [make_units];omega⟩
theorem Room.depth {k:Nat}{A:Around}(r:Room k A):A.depth<recursionLimit:=by have:=r.dp;omega
theorem Room.units0 {k:Nat}{A:Around}(r:Room k A):A.units<cLine:=by have:=r.un;omega
def tNil:TA:=fun _ H Q=>Q [] H
def tCons (ta:TE) (tr:TA):TA:=fun σ H Q=>ta σ H fun x H1=>tr σ H1 fun xs H2=>Q (x::xs) H2
section
variable {X:Cx}{e:Expr}{es:List Expr}{te:TE}{t:TA}{pos:Pos}
theorem pa_nil:PA X [] tNil:=fun _ _ _ _ H Q I h=>Calls.spliced_nil ⟨[],H,I,.nil,h⟩
theorem pa_cons (ha:PE X e te) (hr:PA X es t) (hs:starEach (e::es) X.env=(false,eval e X.env)::starEach es X.env:=by rfl):PA X (e::es) (tCons te t):=by
  intro pos pins s σ H Q I h
  rw [hs]
  show wpAny _ _ (spliced ((false,eval e X.env)::backTo pos (starEach es X.env))) _ _ s
  refine Calls.spliced_cons (thn (ha pins s σ H _ I h) fun u s1 ⟨x,H1,I1,r1,q1⟩=>?_)
  exact thn (hr pos pins s1 σ H1 _ I1 q1) fun us s2 ⟨xs,H2,I2,r2,q2⟩=>⟨x::xs,H2,I2,.cons r1 r2,q2⟩
def tTup (t:TA):TE:=fun σ H Q=>t σ H fun xs H1=>xs.length<=sizeLine/\∀ p,H1 p=none->Q (.ref p) (upd H1 p (.tup xs))
def tLst (t:TA):TE:=fun σ H Q=>t σ H fun xs H1=>xs.length<=sizeLine/\∀ p,H1 p=none->Q (.ref p) (upd H1 p (.lst xs))
theorem pe_tup {x1} (h:PA X es t):PE X (.Tuple es x1 pos) (tTup t):=by
  intro pins s σ H Q I hq
  refine wpAny_Tuple_spliced (thn (h pos pins s σ H _ I hq) fun us s1 ⟨xs,H1,I1,r,z,q⟩=>⟨by rw [<- r.length];exact z,?_⟩)
  have hf:H1 s1.heap.objs.size=none:=I1.hok.fresh (Nat.le_refl _)
  refine ⟨.ref s1.heap.objs.size,upd H1 s1.heap.objs.size (.tup xs),I1.laid (t':=s1.toks) (fun b u e=>Heap.get?_push_of_some _ e) (Nat.le_refl _) ?_,rfl,q _ hf⟩
  exact ⟨z,us,r,⟨_,Heap.get?_push_size _ rfl,rfl,_,rfl⟩⟩
theorem pe_lst (h:PA X es t):PE X (.List es pos) (tLst t):=by
  intro pins s σ H Q I hq
  refine wpAny_List_spliced (thn (h pos pins s σ H _ I hq) fun us s1 ⟨xs,H1,I1,r,z,q⟩=>⟨by rw [<- r.length];exact z,?_⟩)
  have hf:H1 s1.heap.objs.size=none:=I1.hok.fresh (Nat.le_refl _)
  refine ⟨.ref s1.heap.objs.size,upd H1 s1.heap.objs.size (.lst xs),I1.laid (t':=s1.toks) (fun b u e=>Heap.get?_push_of_some _ e) (Nat.le_refl _) ?_,rfl,q _ hf⟩
  exact ⟨z,us,0,r,Heap.get?_push_size _ rfl⟩
end
abbrev Sp:=List V->Hp->VK->XK->Prop
abbrev CXT:=List Env->Hp->Shared->XK->Value->Shared->Prop
structure Env0 (P:Program) (w:World) (K:PySem.W.Frag) (mg:Str->Option Value) (base:Heap) (A:Around) (outer:List Env) (s:Shared) (H:Hp):Prop where
  frames:A.frames=some outer
  mod:Mod K mg base
  bs:∀ b o,base.get? b=some o->s.heap.get? b=some o/\H b=none
  bsz:base.objs.size<=s.heap.objs.size
  funs:s.heap.FunFrames base outer
  frf:∀ b∈frs outer,H b=none
  hok:HOk P w H s.heap
  bare:AllBare s.gens
def CE (outer:List Env) (P:Program) (w:World) (H:Hp) (s:Shared) (Q:VK) (u:Value) (s':Shared):Prop :=
  ∃ v H',s'.os=s.os/\AllBare s'.gens/\Un (frs outer) [] H H' s.heap s'.heap/\HOk P w H' s'.heap/\RelV v u/\Q v H'
def CR (CX:CXT) (outer:List Env) (P:Program) (w:World) (H:Hp) (s:Shared) (Q:VK) (E:XK) (r:Result) (s':Shared):Prop :=
  match r with
  | .ok (.ret u)=>CE outer P w H s Q u s'
  | .ok _=>False
  | .error e=>CX outer H s E e s'
structure FnOk (P:Program) (w:World) (K:PySem.W.Frag) (mg:Str->Option Value) (base:Heap) (CX:CXT) (k:Nat) (f:Addr) (fd:FuncData) (ps:List Str) (sp:Sp):Prop where
  len:∀ vs H Q E,sp vs H Q E->vs.length=ps.length
  run:∀ (A:Around) (outer:List Env) (s:Shared) (H:Hp) (args:Args) (us:List Value) (vs:List V) (Q:VK) (E:XK),Room k A->Env0 P w K mg base A outer s H->BindsTo s fd args (ps.zip us)->Vals vs us->sp vs H Q E ->
    codeAny (model P w) A (.call (.ref f) args) (CR CX outer P w H s Q E) s
theorem Env0.make {P:Program}{w:World}{K:PySem.W.Frag}{mg:Str->Option Value}{base:Heap}{A:Around}{outer:List Env}{s:Shared}{H:Hp}(e:Env0 P w K mg base A outer s H) (C:Addr) (us:List Value) (kw:List (Str×Value)) :
    Env0 P w K mg base (A.under (.builtin "type.__call__" ⟨.ref C::us,kw⟩)) outer s H:=⟨by first | exact e.frames | (simpa [Around.under,Code.envs,Code.isFrame,pushEnvs] using e.frames),e.mod,e.bs,e.bsz,e.funs,e.frf,e.hok,e.bare⟩
section
variable {X:Cx}{pins:List (Addr×Obj)}{σ:St}{H:Hp}{s s':Shared}
theorem Inv.env0 (I:Inv X pins σ H s):Env0 X.prog X.w X.K X.mg X.base X.A X.stack s H :=
  ⟨I.ok.frames,I.ok.mod,I.bs,Nat.le_trans I.ok.bsz I.sz,I.stack,I.stkFree,I.hok,I.bare⟩
theorem Inv.after {Q:VK}{u:Value}(I:Inv X pins σ H s) (h:CE X.stack X.prog X.w H s Q u s'):EP X pins σ Q u s':=by
  obtain ⟨v,H',os,bare,un,hok,r,q⟩:=h
  obtain ⟨hh,g,d,t,os'⟩:=s'
  obtain rfl:os'=s.os:=os
  exact ⟨v,H',I.call (h':=hh) (g':=g) (d':=d) (t':=t) (ch:=[]) un hok bare (fun b z=>absurd z (by simp)),r,q⟩
end
def tCall (sp:Sp) (dvs:List V) (E:XK) (t:TA):TE:=fun σ H Q=>t σ H fun vs H1=>sp (vs++dvs) H1 Q E
def tMeth (C:Addr) (m:Str) (sp:Sp) (dvs:List V) (E:XK) (ta:TE) (t:TA):TE:=fun σ H Q=>ta σ H fun x H1=>∃ a dx fs,x=.ref a/\H1 a=some (.ins C dx fs)/\fs.lookup m=none /\
  t σ H1 fun vs H2=>sp (x::(vs++dvs)) H2 Q E
def tMake (C:Addr) (sp:Sp) (dvs:List V) (E:XK) (t:TA):TE:=fun σ H Q=>t σ H fun vs H1=>∀ x dx,H1 x=none->H1 dx=none->dx≠x ->
  sp (.ref x::(vs++dvs)) (upd (upd H1 dx (.own x)) x (.ins C dx [])) (fun v H2=>v=.non/\Q (.ref x) H2) E
def Binds (K:PySem.W.Frag) (fd:FuncData) (ps:List Str) (ds:List Value):Prop :=
  ∀ (s:Shared) (us:List Value),K.In s.heap->(us++ds).length=ps.length->BindsTo s fd ⟨us,[]⟩ (ps.zip (us++ds))
theorem Binds.all {K:PySem.W.Frag}{fd:FuncData}{ps:List Str}(h:∀ us:List Value,us.length=ps.length->bindArgs fd ⟨us,[]⟩=pure (ps.zip us)):Binds K fd ps []:=fun s us _ hl=>by
  rw [List.append_nil] at hl |-
  exact .of_eq (h us hl)
def Passes (CX:CXT) (X:Cx) (E:XK):Prop:=∀ (pins:List (Addr×Obj)) (σ:St) (H:Hp) (s:Shared) (e:Value) (s':Shared),Inv X pins σ H s->CX X.stack H s E e s'->X.xe e s'
section
variable {X:Cx}{CX:CXT}{k:Nat}{f C:Addr}{fd:FuncData}{ps:List Str}{sp:Sp}{dvs:List V}{ds:List Value}{E:XK}{x m:Str}{p pos apos:Pos}{e o:Expr}{es:List Expr}{ta:TE}{t:TA}
theorem run_fn {pins:List (Addr×Obj)}{σ:St}{H:Hp}{s:Shared}{Q:VK}{us:List Value}{vs:List V}(F:FnOk X.prog X.w X.K X.mg X.base CX k f fd ps sp) (hr:Room k X.A) (hb:Binds X.K fd ps ds) (hd:Vals dvs ds) (hx:Passes CX X E)
    (I:Inv X pins σ H s) (r:Vals vs us) (h:sp (vs++dvs) H Q E):wpAny (model X.prog X.w) X.A (call (.ref f) us) (EP X pins σ Q) X.xe s:=by
  have r2:Vals (vs++dvs) (us++ds):=r.append hd
  have hl:(us++ds).length=ps.length:=by rw [<- r2.length];exact F.len _ _ _ _ h
  refine wpAny_call (codeAny_mono (F.run X.A X.stack s H ⟨us,[]⟩ (us++ds) (vs++dvs) Q E hr I.env0 (hb s us I.kIn hl) r2 h) fun r s' hq=>?_)
  cases r with
  | error e=>exact hx pins σ H s e s' I hq
  | ok fl =>
    cases fl with
    | ret u=>exact I.after hq
    | next=>exact False.elim hq
    | brk=>exact False.elim hq
    | cont=>exact False.elim hq
theorem pe_call (F:FnOk X.prog X.w X.K X.mg X.base CX k f fd ps sp) (hr:Room k X.A) (hg:Gl X x) (hm:X.mg x=some (.ref f)) (hk:PySem.W.keepIn X.K (.ref f)=true) (hb:Binds X.K fd ps ds) (hd:Vals dvs ds) (hx:Passes CX X E)
    (ha:PA X (e::es) t) (hdb:(x==("__debug__":Str))=false:=by decide) (he:starEach (e::es) X.env=(false,eval e X.env)::starEach es X.env:=by rfl) (hpl:(backTo pos (starEach es X.env)).any (·.1)=false:=by rfl) :
    PE X (.Call (.Name x p) (e::es) [] pos) (tCall sp dvs E t):=by
  intro pins s σ H Q I h
  refine wpAny_Call_Name_kw (ld_glob I hg hm ?_ hdb)
  refine PySem.W.callWith_K (h₀:=X.base) I.ok.mod.kin hk (thn (ha pos pins s σ H _ I h) fun us s1 ⟨vs,H1,I1,r,q⟩=>⟨I1.kIn,?_⟩) he hpl
  exact run_fn F hr hb hd hx I1 r q
theorem pe_meth {pl:Sem Bool}(he:PE X o ta) (c:Cls X.K C) (hm:Meth X.K C m f) (F:FnOk X.prog X.w X.K X.mg X.base CX k f fd ps sp) (hr:Room k X.A) (hb:Binds X.K fd ps ds) (hd:Vals dvs ds) (hx:Passes CX X E) (ha:PA X (e::es) t)
    (hst:starEach (e::es) X.env=(false,eval e X.env)::starEach es X.env:=by rfl) (hpl:(backTo pos (starEach es X.env)).any (·.1)=false:=by rfl)
    (ht:eval (.Call (.Attribute o m apos) (e::es) [] pos) X.env=(do
      let ov <- eval o X.env
      standAt apos.atName
      let (f,first) <- holding [ov] (getMethod ov m pl)
      callWith pos f first (backTo pos (starEach (e::es) X.env)) (backToKw pos (keywordEach [] X.env))):=by rfl) :
    PE X (.Call (.Attribute o m apos) (e::es) [] pos) (tMeth C m sp dvs E ta t):=by
  intro pins s σ H Q I h
  refine PySem.W.methodCall_KW (pl:=pl) (thn (he pins s σ H _ I h) fun u s1 ⟨x,H1,I1,rx,a,dx,fs,ex,ea,l,q⟩=>?_) ht
  subst ex
  obtain rfl:u=Value.ref a:=rx
  refine getmeth_ok I1 ea c hm l ?_
  refine PySem.W.callWith_K (first:=[.ref a]) (h₀:=X.base) I.ok.mod.kin hm.kp (thn (ha pos pins s1 σ H1 _ I1 q) fun us s2 ⟨vs,H2,I2,r,q2⟩=>⟨I2.kIn,?_⟩) hst hpl
  exact run_fn (us:=.ref a::us) (vs:=.ref a::vs) F hr hb hd hx I2 (.cons rfl r) q2
theorem pe_meth0 {pl:Sem Bool}(he:PE X o ta) (c:Cls X.K C) (hm:Meth X.K C m f) (F:FnOk X.prog X.w X.K X.mg X.base CX k f fd ps sp) (hr:Room k X.A) (hb:Binds X.K fd ps ds) (hd:Vals dvs ds) (hx:Passes CX X E)
    (ht:eval (.Call (.Attribute o m apos) [] [] pos) X.env=(do
      let ov <- eval o X.env
      standAt apos.atName
      let (f,first) <- holding [ov] (getMethod ov m pl)
      callWith pos f first (backTo pos (starEach [] X.env)) (backToKw pos (keywordEach [] X.env))):=by rfl) :
    PE X (.Call (.Attribute o m apos) [] [] pos) (tMeth C m sp dvs E ta tNil):=by
  intro pins s σ H Q I h
  refine PySem.W.methodCall_KW (pl:=pl) (thn (he pins s σ H _ I h) fun u s1 ⟨x,H1,I1,rx,a,dx,fs,ex,ea,l,q⟩=>?_) ht
  subst ex
  obtain rfl:u=Value.ref a:=rx
  refine getmeth_ok I1 ea c hm l ?_
  exact PySem.W.callWith_K0 (first:=[.ref a]) I1.kIn hm.kp (run_fn (us:=[.ref a]) (vs:=[.ref a]) F hr hb hd hx I1 (.cons rfl .nil) q)
structure Mk (K:PySem.W.Frag) (C f:Addr):Prop where
  makes:PySem.W.makesIn K C=true
  init:PySem.W.findIn K (.ref C) "__init__"=some (some (.ref f))
  fn:PySem.W.isFn K (.ref f)=true
  kp:PySem.W.keepIn K (.ref C)=true
theorem run_make {pins:List (Addr×Obj)}{σ:St}{H:Hp}{s:Shared}{Q:VK}{us:List Value}{vs:List V}(M:Mk X.K C f) (F:FnOk X.prog X.w X.K X.mg X.base CX k f fd ps sp) (hr:Room (k+1) X.A) (hb:Binds X.K fd ps ds) (hd:Vals dvs ds)
    (hx:Passes CX X E) (I:Inv X pins σ H s) (r:Vals vs us)
    (h:∀ x dx,H x=none->H dx=none->dx≠x->sp (.ref x::(vs++dvs)) (upd (upd H dx (.own x)) x (.ins C dx [])) (fun v H2=>v=.non/\Q (.ref x) H2) E) :
    wpAny (model X.prog X.w) X.A (call (.ref C) us) (EP X pins σ Q) X.xe s:=by
  have hq:=h (s.heap.objs.size+1) s.heap.objs.size (I.hok.fresh (Nat.le_succ _)) (I.hok.fresh (Nat.le_refl _)) (Nat.ne_of_lt (Nat.lt_succ_self _))
  have I2:=Inv.made (C:=C) I
  have r2:Vals (V.ref (s.heap.objs.size+1)::(vs++dvs)) (Value.ref (s.heap.objs.size+1)::(us++ds)):=.cons rfl (r.append hd)
  have hl:(Value.ref (s.heap.objs.size+1)::us++ds).length=ps.length:=by
    have e:=r2.length
    rw [F.len _ _ _ _ hq] at e
    exact e.symm
  refine wpAny_call (make_map (f:=f) I.kIn M.makes M.init (beq_iff_eq.mp M.fn) (codeAny_mono (F.run _ X.stack _ _ ⟨Value.ref (s.heap.objs.size+1)::us,[]⟩ (Value.ref (s.heap.objs.size+1)::(us++ds)) _ _ E (hr.make C us [])
    (I2.env0.make C us []) (hb _ (Value.ref (s.heap.objs.size+1)::us) I2.kIn hl) r2 hq) fun r s' hq'=>?_))
  cases r with
  | error e=>exact hx pins σ _ _ e s' I2 hq'
  | ok fl =>
    cases fl with
    | ret u =>
      obtain ⟨v,H',I3,rv,ev,q3⟩:=I2.after hq'
      subst ev
      exact ⟨rv,⟨V.ref (s.heap.objs.size+1),H',I3,rfl,q3⟩⟩
    | next=>exact False.elim hq'
    | brk=>exact False.elim hq'
    | cont=>exact False.elim hq'
theorem pe_make (M:Mk X.K C f) (F:FnOk X.prog X.w X.K X.mg X.base CX k f fd ps sp) (hr:Room (k+1) X.A) (hg:Gl X x) (hm:X.mg x=some (.ref C)) (hb:Binds X.K fd ps ds) (hd:Vals dvs ds) (hx:Passes CX X E)
    (ha:PA X (e::es) t) (hdb:(x==("__debug__":Str))=false:=by decide) (he:starEach (e::es) X.env=(false,eval e X.env)::starEach es X.env:=by rfl) (hpl:(backTo pos (starEach es X.env)).any (·.1)=false:=by rfl) :
    PE X (.Call (.Name x p) (e::es) [] pos) (tMake C sp dvs E t):=by
  intro pins s σ H Q I h
  refine wpAny_Call_Name_kw (ld_glob I hg hm ?_ hdb)
  refine PySem.W.callWith_K (h₀:=X.base) I.ok.mod.kin M.kp (thn (ha pos pins s σ H _ I h) fun us s1 ⟨vs,H1,I1,r,q⟩=>⟨I1.kIn,?_⟩) he hpl
  exact run_make M F hr hb hd hx I1 r q
end
section
variable {X:Cx}{CX:CXT}{k:Nat}{f C:Addr}{fd:FuncData}{ps ks:List Str}{sp:Sp}{E:XK}{x m:Str}{p pos apos kpos:Pos}{e o:Expr}{es:List Expr}{kws:List Keyword}{te ta:TE}{t tk:TA}{nm:Option Str}
variable {g:List Value->List Value->List Value}{gV:List V->List V->List V}
end
structure FnScope (N P:List Str) (sc:Scope):Prop where
  kind:sc.kind=.function
  co:sc.isCoroutine=false
  gen:sc.isGenerator=false
  nd:N.Nodup
  pre:N.take P.length=P
  par:∀ x∈P,sc.names.lookup x=some .local\/sc.names.lookup x=some .cell
  nofree:∀ y∈sc.names,y.2≠.free
theorem bindL_out {kindOf:Str->Option NameKind}{x:Str}:∀ {binds:List (Str×Value)}{m:Str->Option Value},(∀ v,(x,v)∉binds)->bindL kindOf binds m x=m x
  | [],_,_=>rfl
  | (n,v)::r,m,h=>by
    unfold bindL
    rw [bindL_out fun w hw=>h w (List.mem_cons_of_mem _ hw)]
    split
    · have:x≠n:=by rintro rfl;exact h v List.mem_cons_self
      simp [this]
    · rfl
theorem bindC_out {kindOf:Str->Option NameKind}{x:Str}:∀ {binds:List (Str×Value)}{m:Str->Option Value},(∀ v,(x,v)∉binds)->bindC kindOf binds m x=m x
  | [],_,_=>rfl
  | (n,v)::r,m,h=>by
    unfold bindC
    rw [bindC_out fun w hw=>h w (List.mem_cons_of_mem _ hw)]
    split
    · rfl
    · have:x≠n:=by rintro rfl;exact h v List.mem_cons_self
      simp [this]
theorem bindL_get {kindOf:Str->Option NameKind}{x:Str}{v:Value}:∀ {P:List Str}{vs:List Value}{i:Nat}{m:Str->Option Value},P.Nodup->P[i]?=some x->vs[i]?=some v->kindOf x=some .local ->
    bindL kindOf (P.zip vs) m x=some v
  | [],_,_,_,_,h,_,_=>by simp at h
  | _::_,[],_,_,_,_,h,_=>by simp at h
  | p::P,w::vs,0,m,nd,h1,h2,hk=>by
    simp at h1 h2;subst h1;subst h2
    show bindL kindOf ((p,w)::P.zip vs) m p=_
    unfold bindL
    rw [bindL_out fun v hv=>(List.nodup_cons.mp nd).1 (List.of_mem_zip hv).1,if_pos hk]
    simp
  | p::P,w::vs,i+1,m,nd,h1,h2,hk=>by
    show bindL kindOf ((p,w)::P.zip vs) m x=_
    unfold bindL
    exact bindL_get (i:=i) (List.nodup_cons.mp nd).2 (by simpa using h1) (by simpa using h2) hk
theorem bindC_get {kindOf:Str->Option NameKind}{x:Str}{v:Value}:∀ {P:List Str}{vs:List Value}{i:Nat}{m:Str->Option Value},P.Nodup->P[i]?=some x->vs[i]?=some v->kindOf x≠some .local ->
    bindC kindOf (P.zip vs) m x=some v
  | [],_,_,_,_,h,_,_=>by simp at h
  | _::_,[],_,_,_,_,h,_=>by simp at h
  | p::P,w::vs,0,m,nd,h1,h2,hk=>by
    simp at h1 h2;subst h1;subst h2
    show bindC kindOf ((p,w)::P.zip vs) m p=_
    unfold bindC
    rw [bindC_out fun v hv=>(List.nodup_cons.mp nd).1 (List.of_mem_zip hv).1,if_neg hk]
    simp
  | p::P,w::vs,i+1,m,nd,h1,h2,hk=>by
    show bindC kindOf ((p,w)::P.zip vs) m x=_
    unfold bindC
    exact bindC_get (i:=i) (List.nodup_cons.mp nd).2 (by simpa using h1) (by simpa using h2) hk
def start (N:List Str) (vs:List V):St:=vs.map some++List.replicate (N.length - vs.length) none
def cxOf (CX:CXT) (P:Program) (w:World) (K:PySem.W.Frag) (mg:Str->Option Value) (base:Heap) (N:List Str) (qual:Str) (scope:Scope) (f:Addr) (cd:Value) (A:Around) (outer:List Env) (s:Shared) (H:Hp) (E:XK):Cx where
  prog:=P
  w:=w
  K:=K
  mg:=mg
  base:=base
  A:=A.deeper (envOfC qual scope s.heap.objs.size f cd)
  N:=N
  s₀:=s
  H₀:=H
  env:=envOfC qual scope s.heap.objs.size f cd
  outer:=outer
  stack:=envOfC qual scope s.heap.objs.size f cd::outer
  ex:=[]
  calm:=true
  fn:=fun _=>true
  pn:=[]
  xe:=fun e s'=>wpAny (model P w) (A.deeper (envOfC qual scope s.heap.objs.size f cd)) (leaving (envOfC qual scope s.heap.objs.size f cd) e) (fun _ s''=>CX outer H s E e s'') (fun e' s''=>CX outer H s E e' s'') s'
theorem cell_has {sc:Scope}{n:Nat}{x:Str}(h:sc.names.lookup x=some .cell):∃ c,(cellsFrom n sc.names []).lookup x=some c:=by
  have q:=PySem.W.cellsFrom_some sc.names n [] (.inl h)
  exact Option.isSome_iff_exists.mp q
theorem inv_start {CX:CXT}{P:Program}{w:World}{K:PySem.W.Frag}{mg:Str->Option Value}{base:Heap}{N ps:List Str}{qual:Str}{scope:Scope}{f:Addr}{cd:Value}{A:Around}{outer:List Env}{s s1:Shared}{H:Hp}{E:XK}{us:List Value}{vs:List V}
    (S:FnScope N ps scope) (hd:A.handled=none) (e0:Env0 P w K mg base A outer s H) (hl:vs.length=ps.length) (r:Vals vs us)
    (x:InCallC s s.heap.objs.size (bindL (envOfC qual scope s.heap.objs.size f cd).kindOf (ps.zip us) fun _=>none) (cellsFrom (s.heap.objs.size+1) scope.names []) (bindC (envOfC qual scope s.heap.objs.size f cd).kindOf (ps.zip us) fun _=>none) s1) :
    Inv (cxOf CX P w K mg base N qual scope f cd A outer s H E) [] (start N vs) H s1:=by
  have hpl:ps.length<=N.length:=by have:=congrArg List.length S.pre;rw [List.length_take] at this;omega
  obtain ⟨h1,tk,rfl,hk⟩:=x.done
  have noA:∀ b:Addr,b∉(cxOf CX P w K mg base N qual scope f cd A outer s H E).ex:=fun b z=>absurd (show b∈([]:List Addr) from z) (by simp)
  refine ⟨⟨e0.mod,S.kind,rfl,rfl,Nat.le_refl _,fun y z c h1 h2=>?_,fun y hy=>?_,fun y c _ h=>?_,fun _=>hd,Around.frames_deeper e0.frames,.inr ⟨rfl,rfl⟩,fun b z=>absurd z (noA b),e0.bs,e0.bsz,fun b _ _=>noA b,fun b z=>absurd z (noA b),e0.funs,e0.frf⟩,
    rfl,e0.bare,Un.kept hk,⟨_,x.toInCall.ns,fun i y v h1 h2 h3=>?_⟩,fun y c h=>⟨_,x.cell y c h⟩,e0.hok.fresh (Nat.le_refl _),fun y c h=>?_,fun p hp=>absurd (show p∈([]:List (Addr×Obj)) from hp) (by simp),e0.hok.kept hk,?_⟩
  · exact name_of_addr x.apart (PySem.mem_of_lookup h1) (PySem.mem_of_lookup h2)
  · have hy:scope.names.lookup y=some .cell\/scope.names.lookup y=some .free:=hy
    rcases hy with hy | hy
    · exact cell_has hy
    · exact absurd rfl (S.nofree _ (PySem.mem_of_lookup hy))
  · exact Nat.le_of_lt (x.above y c (PySem.mem_of_lookup h))
  · have hi:i<vs.length:=by
      unfold start at h2
      by_cases hi:i<vs.length
      · exact hi
      · rw [List.getElem?_append_right (by simpa using hi)] at h2
        rw [List.getElem?_replicate] at h2
        split at h2 <;> cases h2
    have ha:vs[i]?=some v:=by
      unfold start at h2
      rw [List.getElem?_append_left (by simpa using hi),List.getElem?_map] at h2
      cases e:vs[i]? with
      | none=>rw [e] at h2;cases h2
      | some a=>rw [e] at h2;cases h2;rfl
    obtain ⟨u,hu,rv⟩:=r.get ha
    have hp:ps[i]?=some y:=by
      rw [<- S.pre,List.getElem?_take_of_lt (by omega)];exact h1
    have ndP:ps.Nodup:=by rw [<- S.pre];exact S.nd.sublist (List.take_sublist _ _)
    refine ⟨u,rv,?_⟩
    rcases S.par y (List.mem_of_getElem? hp) with k | k
    · exact .inl ⟨k,bindL_get ndP hp hu k⟩
    · obtain ⟨c,e⟩:=cell_has (n:=s.heap.objs.size+1) k
      refine .inr ⟨.inl k,c,e,?_⟩
      have q:=x.cell y c e
      rw [bindC_get ndP hp hu (by show scope.names.lookup y≠_;rw [k];decide)] at q
      exact q
  · exact e0.hok.fresh (Nat.le_of_lt (x.above y c (PySem.mem_of_lookup h)))
  · unfold start
    show _=N.length
    rw [zLA,zLM,List.length_replicate]
    omega
theorem fn_of {CX:CXT}{P:Program}{w:World}{K:PySem.W.Frag}{mg:Str->Option Value}{base:Heap}{k:Nat}{f:Addr}{name qual:Str}{params:Arguments}{body:List Stmt}{scope:Scope}{dV kV doc pm cdv ct oc:Value}{an od:Option Addr}
    {osl:Array (Option Value)}{N ps:List Str}{sp:Sp}(lk:K.lookup f=some ⟨oc,od,.func (PySem.W.fnOf name qual params body scope dV kV doc pm an cdv ct),osl⟩) (hcd:PySem.W.codeIn K cdv qual=true) (S:FnScope N ps scope)
    (len:∀ vs H Q E,sp vs H Q E->vs.length=ps.length)
    (hbody:∀ (A:Around) (outer:List Env) (s:Shared) (H:Hp) (vs:List V) (Q:VK) (E:XK),Room k (A.deeper (envOfC qual scope s.heap.objs.size f cdv))->sp vs H Q E ->
      ∃ t,PSs (cxOf CX P w K mg base N qual scope f cdv A outer s H E) body t/\t { nx:=fun _ H'=>Q .non H',rt:=Q } (start N vs) H) :
    FnOk P w K mg base CX (k+1) f (PySem.W.fnOf name qual params body scope dV kV doc pm an cdv ct) ps sp:=by
  refine ⟨len,fun A outer s H args us vs Q E hr e0 hb r hsp=>?_⟩
  have hl:=len _ _ _ _ hsp
  have KX:K.In s.heap:=e0.mod.kin.keeps fun b o e=>(e0.bs b o e).1
  have lim:s.heap.NoLimit:=e0.mod.nolimit.keeps fun b o e=>(e0.bs b o e).1
  have hkind:∀ y∈ps.zip us,scope.names.lookup y.1=some .local\/(scope.names.lookup y.1=some .cell/\((cellsFrom (s.heap.objs.size+1) scope.names []).lookup y.1).isSome=true):=fun ⟨n,v⟩ hy=>by
    rcases S.par n (List.of_mem_zip hy).1 with q | q
    · exact .inl q
    · exact .inr ⟨q,PySem.W.cellsFrom_some _ _ _ (.inl q)⟩
  refine codeAny_call_function hr.depth (KX _ _ lk) rfl S.co S.gen rfl (PySem.W.codeRec_of KX hcd) (hb _ _ _ _ ?_)
  refine wpAny_newFunctionEnv_cells S.kind hkind fun env he s1 x=>?_
  subst he
  refine ⟨lim.keeps x.toInCall.keep,codeAny_func ?_⟩
  obtain ⟨t,ht,hq⟩:=hbody A outer s H vs Q E (hr.deeper _) hsp
  have I:Inv (cxOf CX P w K mg base N qual scope f cdv A outer s H E) [] (start N vs) H s1:=inv_start S hr.hd e0 hl r x
  refine wpAny_mono (ht [] s1 (start N vs) H _ I hq) (fun fl s' hs=>?_) fun e s' hs=>hs
  have fin:∀ {σ':St}{H':Hp}{v:V}{u:Value},Inv (cxOf CX P w K mg base N qual scope f cdv A outer s H E) [] σ' H' s'->RelV v u->Q v H'->CE outer P w H s Q u s' :=
    fun {σ' H' v u} J rv q=>⟨v,H',J.os,J.bare,J.base,J.hok,rv,q⟩
  cases fl with
  | ret u =>
    obtain ⟨v,σ',H',J,rv,q⟩:=hs
    exact fin J rv q
  | next =>
    obtain ⟨σ',H',J,q⟩:=hs
    exact fin (v:=V.non) (u:=Value.none) J rfl q
  | brk =>
    obtain ⟨_,_,_,q⟩:=hs
    exact False.elim q
  | cont =>
    obtain ⟨_,_,_,q⟩:=hs
    exact False.elim q
end L2
namespace L2
open PySem PySem.Spec PyProof.Rows
section
variable {X:Cx}{x:Str}{p pos:Pos}{e:Expr}{es:List Expr}{t:TA}{id T:String}{r:List V->Hp->VK->Prop}
def tCB (r:List V->Hp->VK->Prop) (t:TA):TE:=fun σ H Q=>t σ H fun vs H1=>r vs H1 Q
theorem pe_callB (hc:CallR X (.builtin id) r) (hg:Gl X x) (hm:X.mg x=none) (hv:bootBuiltins x=some (.builtin id)) (ha:PA X (e::es) t) (hn:x≠"__name__":=by decide) (hdb:(x==("__debug__":Str))=false:=by decide)
    (he:starEach (e::es) X.env=(false,eval e X.env)::starEach es X.env:=by rfl) (hpl:(backTo pos (starEach es X.env)).any (·.1)=false:=by rfl):PE X (.Call (.Name x p) (e::es) [] pos) (tCB r t):=by
  intro pins s σ H Q I h
  refine wpAny_Call_Name_kw (ld_blt I hg hm hv ?_ hn hdb)
  exact PyProof.Rows.callWith_builtin1 (thn (ha pos pins s σ H _ I h) fun us s1 ⟨vs,H1,I1,r1,q1⟩=>hc pins s1 σ H1 vs us Q I1 r1 q1) he hpl
theorem pe_callTy (hc:CallR X (.type T) r) (hg:Gl X x) (hm:X.mg x=none) (hv:bootBuiltins x=some (.type T)) (ha:PA X (e::es) t) (hn:x≠"__name__":=by decide) (hdb:(x==("__debug__":Str))=false:=by decide)
    (he:starEach (e::es) X.env=(false,eval e X.env)::starEach es X.env:=by rfl) (hpl:(backTo pos (starEach es X.env)).any (·.1)=false:=by rfl):PE X (.Call (.Name x p) (e::es) [] pos) (tCB r t):=by
  intro pins s σ H Q I h
  refine wpAny_Call_Name_kw (ld_blt I hg hm hv ?_ hn hdb)
  exact PyProof.Rows.callWith_type1 (thn (ha pos pins s σ H _ I h) fun us s1 ⟨vs,H1,I1,r1,q1⟩=>hc pins s1 σ H1 vs us Q I1 r1 q1) he hpl
end
end L2
namespace HT
open PySem PyProof.Rows
section
open PySem.SeqAt
open PySem.AutoSeq1 (wpAny_loadPart')
open PySem.MeetsSeq PySem.MeetsSeq2 PySem.MeetsSeq3
end
section
variable {prog:Program}{w:World}{A:Around}{E:Value->Shared->Prop}{s:Shared}
def sIx (n d:Nat):Option Int->Nat
  | none=>d
  | some v=>if v<0 then (v+(n:Int)).toNat else min v.toNat n
theorem sIx_none (n d:Nat):sIx n d none=d:=rfl
theorem sIx_nat (n d k:Nat):sIx n d (some (k:Int))=min k n:=by
  show (if (k:Int)<0 then ((k:Int)+(n:Int)).toNat else min (k:Int).toNat n)=min k n
  rw [if_neg (by omega),Int.toNat_natCast]
theorem sIx_le (n d:Nat) (hd:d<=n) (o:Option Int):sIx n d o<=n:=by
  cases o with
  | none=>exact hd
  | some v =>
    show (if v<0 then (v+(n:Int)).toNat else min v.toNat n)<=n
    by_cases hv:v<0
    · rw [if_pos hv];omega
    · rw [if_neg hv];exact Nat.min_le_right _ _
theorem clip_eq (v:Int) (n d:Nat):(if v<0 then max (v+(n:Int)) 0 else min v (n:Int))=((sIx n d (some v):Nat):Int):=by
  show (if v<0 then max (v+(n:Int)) 0 else min v (n:Int))=(((if v<0 then (v+(n:Int)).toNat else min v.toNat n):Nat):Int)
  by_cases hv:v<0
  · simp only [if_pos hv];omega
  · simp only [if_neg hv];omega
theorem adjust_gen (lo hi:Option Int) (n:Nat):Builtin.Slice.sliceAdjust lo hi 1 (n:Int)=(((sIx n 0 lo:Nat):Int),((sIx n n hi:Nat):Int)):=by
  have h1:¬ ((1:Int)<0):=by omega
  unfold Builtin.Slice.sliceAdjust
  simp only [h1,if_false]
  refine Prod.ext ?_ ?_
  · cases lo with
    | none=>rfl
    | some v=>exact clip_eq v n 0
  · cases hi with
    | none=>rfl
    | some v=>exact clip_eq v n n
theorem places_gen (i j:Nat):Builtin.Slice.slicePlaces (i:Int) (j:Int) 1=j - i:=by
  unfold Builtin.Slice.slicePlaces
  have h1:(1:Int)>0:=by omega
  simp only [h1,if_true,Int.ediv_one]
  split <;> omega
theorem slicePart_ {v:Value}{o:Option Int}{Q:Option Int->Shared->Prop}(p:IsPart v o) (h:Q o s):wpAny (model prog w) A (Builtin.Slice.slicePartIndex v) Q E s:=by
  cases p with
  | none=>exact slicePart_none h
  | int i t=>exact slicePart_int h
theorem sliceApplied_gen {sl:Addr}{vl vu:Value}{lo hi:Option Int}{n:Nat}{Q:Int×Int×Nat->Shared->Prop}(hs:s.heap.IsSliceOf sl vl vu .none) (pl:IsPart vl lo) (pu:IsPart vu hi)
    (h:Q (((sIx n 0 lo:Nat):Int),1,sIx n n hi - sIx n 0 lo) s):wpAny (model prog w) A (Builtin.Slice.sliceApplied (.ref sl) (pure (n:Int))) Q E s:=by
  obtain ⟨os,hos,hcs,hds⟩:=id hs
  unfold Builtin.Slice.sliceApplied Builtin.Slice.sliceFields
  refine wpAny_bind (wpAny_bind (wpAny_field hos hds (x:=vl) rfl (wpAny_bind (wpAny_field hos hds (x:=vu) rfl (wpAny_bind (wpAny_field hos hds (x:=.none) rfl (wpAny_pure ?_)))))))
  refine wpAny_bind (slicePart_none ?_)
  show wpAny _ _ (if ((1:Int)==0)=true then _ else _) _ _ s
  rw [if_neg (by decide)]
  refine wpAny_bind (slicePart_ pl (wpAny_bind (slicePart_ pu (wpAny_bind (wpAny_pure ?_)))))
  show wpAny _ _ (match Builtin.Slice.sliceAdjust lo hi 1 (n:Int) with | (lo,hi)=>pure (lo,(1:Int),Builtin.Slice.slicePlaces lo hi 1)) _ _ s
  rw [adjust_gen lo hi n]
  show wpAny _ _ (pure (((sIx n 0 lo:Nat):Int),(1:Int),Builtin.Slice.slicePlaces ((sIx n 0 lo:Nat):Int) ((sIx n n hi:Nat):Int) 1)) _ _ s
  rw [places_gen]
  exact wpAny_pure h
theorem pick_gen (xs:Array Value) (i k:Nat):((List.range k).filterMap fun (m:Nat)=>xs[((i:Int)+(m:Int) * 1).toNat]?).toArray=((xs.toList.drop i).take k).toArray:=by
  have e:(fun (m:Nat)=>xs[((i:Int)+(m:Int) * 1).toNat]?)=fun m=>xs[i+m]?:=by
    funext m
    have:((i:Int)+(m:Int) * 1).toNat=i+m:=by omega
    rw [this]
  rw [e]
  have:=pick_run xs i k
  rw [List.filterMap_map] at this
  have e2:((fun x=>xs[x]?)∘fun x=>i+x)=fun m=>xs[i+m]?:=rfl
  rw [e2] at this
  rw [this]
theorem getItem_tuple_cut {t sl:Addr}{items:Array Value}{vl vu:Value}{lo hi:Option Int}{Q:Value->Shared->Prop}(ht:IsTup s.heap t items) (hs:s.heap.IsSliceOf sl vl vu .none) (pl:IsPart vl lo) (pu:IsPart vu hi)
    (hw:¬ (sIx items.size 0 lo=0/\sIx items.size items.size hi=items.size))
    (h:Q (.ref s.heap.objs.size) { s with heap:=s.heap.push { cls:=.type "tuple",data:=.seq ((items.toList.drop (sIx items.size 0 lo)).take (sIx items.size items.size hi - sIx items.size 0 lo)).toArray } })
    (hsz:items.size<=sizeLine):wpAny (model prog w) A (getItem (.ref t) (.ref sl)) Q E s:=by
  have htake:sizeOk (.seq ((items.toList.drop (sIx items.size 0 lo)).take (sIx items.size items.size hi - sIx items.size 0 lo)).toArray):=by
    show ((items.toList.drop (sIx items.size 0 lo)).take (sIx items.size items.size hi - sIx items.size 0 lo)).toArray.size<=sizeLine
    rw [List.size_toArray,List.length_take,List.length_drop,Array.length_toList]
    omega
  have hj:sIx items.size items.size hi<=items.size:=sIx_le _ _ (Nat.le_refl _) hi
  obtain ⟨os,hos,hcs,hds⟩:=id hs
  have hTs:s.TypeIs (.ref sl) "slice":=⟨os,hos,hcs⟩
  unfold getItem
  try with_reducible refine wpAny_holding ?_
  first | refine wpAny_bind (wpAny_pure ?_) | skip
  refine wpAny_bind (wpAny_sequenceKey ht.typeIs (by decide) ?_)
  refine wpAny_bind (wpAny_callSpecial?_slot (name:=Str.ofString "__getitem__") ht.typeIs PyProof.Rows.slot_tuple_getitem
    (wpAny_call_entry PyProof.Rows.slot_tuple_getitem ht.typeIs entry_tuple_getitem ?_ (args_tuple_getitem _ _)))
  show wpAny _ _ (Builtin.Tuple.tupleItemsOf (.ref t) >>= _) _ _ s
  refine wpAny_bind (tupleItemsOf_ ht ?_)
  refine wpAny_bind (wpAny_typeOf hTs ?_)
  rw [if_pos (by decide)]
  refine wpAny_bind (sliceApplied_gen hs pl pu ?_)
  have hno:¬ ((((sIx items.size 0 lo:Nat):Int)==0&&(1:Int)==1&&(sIx items.size items.size hi - sIx items.size 0 lo)==items.size)=true):=by
    intro q
    rw [Bool.and_eq_true,Bool.and_eq_true] at q
    have q1:((sIx items.size 0 lo:Nat):Int)=0:=eq_of_beq q.1.1
    have q2:sIx items.size items.size hi - sIx items.size 0 lo=items.size:=eq_of_beq q.2
    exact hw ⟨by omega,by omega⟩
  show wpAny _ _ (if (((sIx items.size 0 lo:Nat):Int)==0&&(1:Int)==1&&(sIx items.size items.size hi - sIx items.size 0 lo)==items.size)=true then _ else _) _ _ s
  rw [if_neg hno,pick_gen]
  first
    | exact wpAny_bind (m:=Builtin.Tuple.tupleExact _) (wpAny_newObj_type (wpAny_pure ⟨_,rfl,wpAny_pure h⟩) htake)
    | exact wpAny_bind (m:=Builtin.Tuple.tupleExact _) (wpAny_newObj_type (wpAny_bind (wpAny_pure (wpAny_pure ⟨_,rfl,wpAny_pure h⟩))) htake)
    | exact wpAny_bind (wpAny_bind (m:=Builtin.Tuple.tupleExact _) (wpAny_newObj_type (wpAny_pure (wpAny_pure ⟨_,rfl,wpAny_pure h⟩)) htake))
    | exact wpAny_bind (wpAny_bind (m:=Builtin.Tuple.tupleExact _) (wpAny_newObj_type (wpAny_pure ⟨_,rfl,wpAny_pure h⟩) htake))
end
end HT
namespace L2
open PySem PySem.Spec PyProof.Rows
abbrev TO:=St->Hp->(Option Int->Hp->Prop)->Prop
def PO (X:Cx) (e:Option Expr) (t:TO):Prop :=
  ∀ (pins:List (Addr×Obj)) (s:Shared) (σ:St) (H:Hp) (Q:Option Int->Hp->Prop),Inv X pins σ H s->t σ H Q ->
    wpAny (model X.prog X.w) X.A (evalPart e X.env) (fun u s'=>∃ o H',Inv X pins σ H' s'/\IsPart u o/\Q o H') X.xe s
def tNoPart:TO:=fun _ H Q=>Q none H
def tPart (t:TE):TO:=fun σ H Q=>t σ H fun x H1=>∃ i,x=.int i/\Q (some i) H1
section
variable {X:Cx}{e:Expr}{te:TE}{lo hi:Option Expr}{tl th:TO}{pos p2:Pos}
theorem po_none:PO X none tNoPart:=by
  intro pins s σ H Q I h
  rw [evalPart_none]
  exact wpAny_pure ⟨none,H,I,.none,h⟩
theorem po_some (h:PE X e te):PO X (some e) (tPart te):=by
  intro pins s σ H Q I hw
  rw [evalPart_some]
  refine thn (h pins s σ H _ I hw) fun u s1 ⟨x,H1,I1,r1,q1⟩=>?_
  obtain ⟨i,rfl,q⟩:=q1
  obtain ⟨t,rfl⟩:=r1
  exact ⟨some i,H1,I1,.int i t,q⟩
def SlR (X:Cx) (r:V->Option Int->Option Int->Hp->VK->Prop):Prop :=
  ∀ (pins:List (Addr×Obj)) (s:Shared) (σ:St) (H:Hp) (x:V) (v vl vu:Value) (lo hi:Option Int) (sl:Addr) (Q:VK),Inv X pins σ H s->RelV x v->s.heap.IsSliceOf sl vl vu .none->IsPart vl lo->IsPart vu hi->r x lo hi H Q ->
    ∃ T id,typeLookup (.type T) "__getitem__"=pure (some (.builtin id))/\s.TypeIs v T/\wpAny (model X.prog X.w) X.A (getItem v (.ref sl)) (EP X pins σ Q) X.xe s
def tSl (r:V->Option Int->Option Int->Hp->VK->Prop) (te:TE) (tl th:TO):TE:=fun σ H Q=>te σ H fun x H1=>tl σ H1 fun l H2=>th σ H2 fun u H3=>r x l u H3 Q
theorem pe_slice {r:V->Option Int->Option Int->Hp->VK->Prop}(hr:SlR X r) (he:PE X e te) (hl:PO X lo tl) (hu:PO X hi th):PE X (.Subscript e (.Slice lo hi none p2) pos) (tSl r te tl th):=by
  intro pins s σ H Q I h
  refine Subscript_ (thn (he pins s σ H _ I h) fun v s1 ⟨x,H1,I1,r1,q1⟩=>?_)
  refine wpAny_Slice (thn (hl pins s1 σ H1 _ I1 q1) fun vl s2 ⟨l,H2,I2,pl,q2⟩=>thn (hu pins s2 σ H2 _ I2 q2) fun vu s3 ⟨u,H3,I3,pu,q3⟩=>?_)
  rw [evalPart_none]
  refine wpAny_pure ?_
  have I4:Inv X pins σ H3 { s3 with heap:=s3.heap.push { cls:=.type "slice",data:=.fields #[vl,vu,.none] } }:=I3.kept (t':=s3.toks) fun b ob q=>Heap.get?_push_of_some _ q
  obtain ⟨T,id,hT,ht,hg⟩:=hr pins { s3 with heap:=s3.heap.push { cls:=.type "slice",data:=.fields #[vl,vu,.none] } } σ H3 x v vl vu l u s3.heap.objs.size Q I4 r1 (Heap.IsSliceOf.new ..) pl pu q3
  show wpAny (model X.prog X.w) X.A (subscriptTail e (.Slice lo hi none p2) v (.ref s3.heap.objs.size)) (EP X pins σ Q) X.xe { s3 with heap:=s3.heap.push { cls:=.type "slice",data:=.fields #[vl,vu,.none] } }
  exact tail_any (ops:=[.ref s3.heap.objs.size,v]) ht hT hg (by with_unfolding_all rfl)
def cutV (xs:List V) (lo hi:Option Int):List V:=(xs.drop (HT.sIx xs.length 0 lo)).take (HT.sIx xs.length xs.length hi - HT.sIx xs.length 0 lo)
theorem cutV_length (xs:List V) (lo hi:Option Int):(cutV xs lo hi).length<=xs.length:=by
  unfold cutV
  rw [List.length_take,List.length_drop]
  omega
def rSlT (K:PySem.W.Frag):V->Option Int->Option Int->Hp->VK->Prop:=fun x lo hi H Q=>∃ a xs,x=.ref a/\SqT K H a xs /\
  ¬ (HT.sIx xs.length 0 lo=0/\HT.sIx xs.length xs.length hi=xs.length)/\∀ p,H p=none->Q (.ref p) (upd H p (.tup (cutV xs lo hi)))
theorem sl_tup:SlR X (rSlT X.K):=by
  intro pins s σ H x v vl vu lo hi sl Q I rx hs pl pu h
  obtain ⟨a,xs,rfl,hx,hw,q⟩:=h
  cases rx
  obtain ⟨its,r,ht,hz⟩:=I.tuple hx
  have hlen:its.toArray.size=xs.length:=by rw [List.size_toArray];exact r.length.symm
  refine ⟨"tuple",_,PyProof.Rows.slot_tuple_getitem.lookup,ht.typeIs,?_⟩
  refine HT.getItem_tuple_cut ht hs pl pu (by rw [hlen];exact hw) ?_ (by rw [hlen];exact hz)
  rw [hlen]
  refine ⟨.ref s.heap.objs.size,_,I.laid (t':=s.toks) (o:=.tup (cutV xs lo hi)) (fun b ob q=>Heap.get?_push_of_some _ q) (Nat.le_refl _) ?_,rfl,q _ (I.hok.fresh (Nat.le_refl _))⟩
  exact ⟨Nat.le_trans (cutV_length xs lo hi) hz,_,(r.drop (HT.sIx xs.length 0 lo)).take (HT.sIx xs.length xs.length hi - HT.sIx xs.length 0 lo),IsTup.new _ _⟩
end
end L2
namespace L2
open PySem PySem.Spec PyProof.Rows
def ixN (n:Nat) (i:Int):Option Nat:=if 0<=i then (if i<n then some i.toNat else none) else if -(n:Int)<=i then some (i+n).toNat else none
def atI {α:Type}(xs:List α) (i:Int):Option α:=(ixN xs.length i).bind fun j=>xs[j]?
theorem ixN_seq {n:Nat}{i:Int}{j:Nat}(h:ixN n i=some j):seqIndex? i n=some j/\j<n /\ -(n:Int)<=i/\i<n:=by
  unfold ixN at h
  by_cases h0:0<=i
  · rw [if_pos h0] at h
    by_cases h1:i<n
    · rw [if_pos h1] at h
      have e:i.toNat=j:=Option.some.inj h
      exact ⟨by rw [seqIndex_of h0 h1,e],by omega,by omega,h1⟩
    · rw [if_neg h1] at h;cases h
  · rw [if_neg h0] at h
    by_cases h1 : -(n:Int)<=i
    · rw [if_pos h1] at h
      have e:(i+n).toNat=j:=Option.some.inj h
      exact ⟨by rw [seqIndex_neg (by omega) h1,e],by omega,h1,by omega⟩
    · rw [if_neg h1] at h;cases h
theorem atI_get {α:Type}{xs:List α}{i:Int}{v:α}(h:atI xs i=some v):∃ j,seqIndex? i xs.length=some j/\xs[j]?=some v/\j<xs.length /\ -(xs.length:Int)<=i/\i<xs.length:=by
  unfold atI at h
  cases e:ixN xs.length i with
  | none=>rw [e] at h;cases h
  | some j =>
    rw [e] at h
    obtain ⟨h1,h2,h3,h4⟩:=ixN_seq e
    exact ⟨j,h1,h,h2,h3,h4⟩
theorem atI_nat {α:Type}{xs:List α}{j:Nat}{v:α}(h:xs[j]?=some v):atI xs (j:Int)=some v:=by
  have hj:j<xs.length:=(List.getElem?_eq_some_iff.mp h).1
  have e:ixN xs.length (j:Int)=some j:=by
    unfold ixN
    rw [if_pos (by omega),if_pos (by omega)];simp
  unfold atI;rw [e];exact h
def PlainIx (b:Expr):Prop:=∀ o i,subscripted b false o i=operate [o,i] (getItem o i)
def IxR (X:Cx) (r:R2):Prop :=
  ∀ (value slice:Expr) (pins:List (Addr×Obj)) (s:Shared) (σ:St) (H:Hp) (x y:V) (v u:Value) (Q:VK),Inv X pins σ H s->RelV x v->RelV y u->r x y H Q ->
    subscripted slice false v u=operate [v,u] (getItem v u)->wpAny (model X.prog X.w) X.A (subscriptTail value slice v u) (EP X pins σ Q) X.xe s
def MtR (X:Cx) (id:String) (r:V->List V->Hp->VK->Prop):Prop :=
  ∀ (pins:List (Addr×Obj)) (s:Shared) (σ:St) (H:Hp) (x:V) (xs:List V) (v:Value) (us:List Value) (Q:VK),Inv X pins σ H s->RelV x v->Vals xs us->r x xs H Q ->
    wpAny (model X.prog X.w) X.A (call (.builtin id) (v::us)) (EP X pins σ Q) X.xe s
section
variable {X:Cx}{a b:Expr}{ta tb:TE}{pos:Pos}
theorem pe_ix {r:R2}(hr:IxR X r) (ha:PE X a ta) (hb:PE X b tb) (hs:PlainIx b):PE X (.Subscript a b pos) (tOp r ta tb):=by
  intro pins s σ H Q I h
  exact Subscript_ (binT ha hb I h fun v u s2 x y H2 I2 rx ry q=>hr a b pins s2 σ H2 x y v u Q I2 rx ry q (hs _ _))
def rIxL (K:PySem.W.Frag):R2:=fun x y H Q=>∃ p xs i v,x=.ref p/\y=.int i/\SqL K H p xs/\atI xs i=some v/\Q v H
def rIxT (K:PySem.W.Frag):R2:=fun x y H Q=>∃ p xs i v,x=.ref p/\y=.int i/\SqT K H p xs/\atI xs i=some v/\Q v H
def rIxS:R2:=fun x y H Q=>∃ z i c,x=.str z/\y=.int i/\z.length<=sizeLine/\atI z.cps.toList i=some c/\Q (.str ⟨#[c]⟩) H
theorem ix_list:IxR X (rIxL X.K):=by
  intro value slice pins s σ H x y v u Q I rx ry h hs
  obtain ⟨p,xs,i,z,rfl,rfl,hq,he,q⟩:=h
  cases rx
  obtain ⟨t,rfl⟩:=ry
  obtain ⟨its,r,pl,hz⟩:=I.list hq
  obtain ⟨j,h1,h2,h3,h4,h5⟩:=atI_get he
  obtain ⟨w,ew,rw'⟩:=r.get h2
  have hl:=r.length
  have hn:=line63
  have fin:EP X pins σ Q w s:=⟨z,H,I,rw',q⟩
  by_cases h0:0<=i
  · have hj:i.toNat=j:=by
      rw [seqIndex_of h0 h5] at h1
      exact Option.some.inj h1
    exact item_listR pl.isList h0 (by omega) (by rw [hj];simpa using ew) fin hs
  · have hj:(i+(its.toArray.size:Int)).toNat=j:=by
      rw [seqIndex_neg (by omega) h4] at h1
      rw [List.size_toArray,<- hl]
      exact Option.some.inj h1
    exact subscriptTail_builtinR (x:=w) pl.isList.typeIs slot_list_getitem.lookup
      (wpAny_getItem_list_neg (Q:=fun r s'=>r=w/\EP X pins σ Q r s') pl.isList (by omega) (by rw [List.size_toArray] <;> omega) (by omega) (by rw [hj];simpa using ew) ⟨rfl,fin⟩) hs
theorem ix_tup:IxR X (rIxT X.K):=by
  intro value slice pins s σ H x y v u Q I rx ry h hs
  obtain ⟨p,xs,i,z,rfl,rfl,hq,he,q⟩:=h
  cases rx
  obtain ⟨t,rfl⟩:=ry
  obtain ⟨its,r,pl,hz⟩:=I.tuple hq
  obtain ⟨j,h1,h2,h3,h4,h5⟩:=atI_get he
  obtain ⟨w,ew,rw'⟩:=r.get h2
  have hl:=r.length
  have hn:=line63
  have fin:EP X pins σ Q w s:=⟨z,H,I,rw',q⟩
  exact subscriptTail_builtinR (x:=w) pl.typeIs slot_tuple_getitem.lookup
    (getItem_tuple (j:=j) (Q:=fun r s'=>r=w/\EP X pins σ Q r s') pl (by omega) (by omega) (by rw [List.size_toArray,<- hl];exact h1) (by simpa using ew) ⟨rfl,fin⟩) hs
theorem ix_str:IxR X rIxS:=by
  intro value slice pins s σ H x y v u Q I rx ry h hs
  obtain ⟨z,i,c,rfl,rfl,hz,he,q⟩:=h
  obtain ⟨t,rfl⟩:=rx
  obtain ⟨t',rfl⟩:=ry
  obtain ⟨j,h1,h2,h3,h4,h5⟩:=atI_get he
  have hl:z.cps.toList.length=z.length:=by simp [Str.length]
  rw [hl] at h1 h4 h5
  have hn:=line63
  exact tail_any (typeIs_str s z t) slot_str_getitem.lookup (getItem_str (c:=c) (by
    have e1:decide (i < -(2 ^ 63:Int))=false:=decide_eq_false (by omega)
    have e2:decide (i>=2 ^ 63)=false:=decide_eq_false (by omega)
    rw [e1,e2,Bool.or_false]) (by rw [h1];simpa using h2) ⟨.str ⟨#[c]⟩,H,I.tok _,⟨_,rfl⟩,q⟩) hs
theorem mapSeq_set (its:List Value) (n j:Nat) (u:Value):Obj.mapSeq (·.setIfInBounds j u) { cls:=.type "list",data:=.seq its.toArray n }={ cls:=.type "list",data:=.seq (its.set j u).toArray n }:=by
  simp [Obj.mapSeq]
theorem Inv.lst {pins:List (Addr×Obj)}{σ:St}{H:Hp}{s:Shared}{p:Addr}{xs:List V}(I:Inv X pins σ H s) (h:H p=some (.lst xs)) :
    ∃ (its:List Value) (n:Nat),Vals xs its/\s.heap.get? p=some { cls:=.type "list",data:=.seq its.toArray n }/\xs.length<=sizeLine:=by
  obtain ⟨z,its,n,r,e⟩:=I.hok p _ h
  exact ⟨its,n,r,e,z⟩
theorem Inv.lstUpd {pins:List (Addr×Obj)}{σ:St}{H:Hp}{s:Shared}{p:Addr}{xs ys:List V}{its its':List Value}{n n':Nat}{f:Obj->Obj}(I:Inv X pins σ H s) (h:H p=some (.lst xs))
    (ho:s.heap.get? p=some { cls:=.type "list",data:=.seq its.toArray n }) (hf:f { cls:=.type "list",data:=.seq its.toArray n }={ cls:=.type "list",data:=.seq its'.toArray n' }) (r:Vals ys its') (hz:ys.length<=sizeLine) (t:Nat) :
    Inv X pins σ (upd H p (.lst ys)) { s with heap:=s.heap.update p f,toks:=t }:=by
  have e:(s.heap.update p f).get? p=some { cls:=.type "list",data:=.seq its'.toArray n' }:=by
    rw [Heap.get?_update_self f ho (by rw [hf] <;> rfl),hf]
  refine I.write (x:=p) (e:=p) (by rw [h];trivial) (.inl rfl) (fun b u hb q=>(Heap.get?_update_other _ _ (Ne.symm hb)).trans q) ⟨_,e⟩ ?_
  exact ⟨hz,its',n',r,e⟩
def rSetL:V->V->V->Hp->(Hp->Prop)->Prop:=fun o i v H Q=>∃ p xs k j,o=.ref p/\i=.int k/\H p=some (.lst xs)/\ixN xs.length k=some j/\Q (upd H p (.lst (xs.set j v)))
theorem set_list:PSet X rSetL:=by
  intro pins s σ H o i v ov iv u Q I ro ri rv h
  obtain ⟨p,xs,k,j,rfl,rfl,hp,hj,q⟩:=h
  cases ro
  obtain ⟨t,rfl⟩:=ri
  obtain ⟨its,n,r,ho,hz⟩:=I.lst hp
  obtain ⟨h1,h2,h3,h4⟩:=ixN_seq hj
  have hl:=r.length
  have hn:=line63
  have I':Inv X pins σ (upd H p (.lst (xs.set j v))) { s with heap:=s.heap.update p (Obj.mapSeq (·.setIfInBounds j u)) } :=
    I.lstUpd hp ho (mapSeq_set its n j u) (r.set rv j) (by rw [List.length_set];exact hz) s.toks
  by_cases h0:0<=k
  · have hk:k.toNat=j:=by
      rw [seqIndex_of h0 h4] at h1
      exact Option.some.inj h1
    exact PySem.W.ki_setAt ho h0 (by omega) (by rw [List.size_toArray,<- hl];exact h4) (by rw [hk];exact ⟨_,I',q⟩)
  · have hk:(k+(its.toArray.size:Int)).toNat=j:=by
      rw [seqIndex_neg (by omega) h3] at h1
      rw [List.size_toArray,<- hl]
      exact Option.some.inj h1
    exact PySem.W.ki_setBack ho (by omega) (by rw [List.size_toArray,<- hl];exact h3) (by omega) (by rw [hk];exact ⟨_,I',q⟩)
theorem slice_bounds (lo hi:Option Int) (n:Nat):(sliceBounds lo hi none n).1=((HT.sIx n 0 lo:Nat):Int)/\(sliceBounds lo hi none n).2.1=((HT.sIx n n hi:Nat):Int)/\(sliceBounds lo hi none n).2.2=1:=by
  refine ⟨?_,?_,rfl⟩
  · cases lo with
    | none=>simp [sliceBounds,HT.sIx]
    | some i =>
      simp only [sliceBounds,HT.sIx,Option.getD_none,show (1:Int)>0 by decide,if_true]
      by_cases h:i<0
      · simp only [h,if_true] <;> omega
      · simp only [h,if_false] <;> omega
  · cases hi with
    | none=>simp [sliceBounds,HT.sIx]
    | some i =>
      simp only [sliceBounds,HT.sIx,Option.getD_none,show (1:Int)>0 by decide,if_true]
      by_cases h:i<0
      · simp only [h,if_true] <;> omega
      · simp only [h,if_false] <;> omega
theorem slicePick_cut (its:List Value) (lo hi:Option Int):slicePick its.toArray lo hi none=((its.drop (HT.sIx its.length 0 lo)).take (HT.sIx its.length its.length hi - HT.sIx its.length 0 lo)).toArray:=by
  obtain ⟨h1,h2,h3⟩:=slice_bounds lo hi its.toArray.size
  unfold slicePick
  rw [h1,h2,h3]
  simp only [sliceRange_one,pick_run,List.size_toArray] <;> rfl
def rSlL (K:PySem.W.Frag):V->Option Int->Option Int->Hp->VK->Prop:=fun x lo hi H Q=>∃ a xs,x=.ref a/\SqL K H a xs/\∀ p,H p=none->Q (.ref p) (upd H p (.lst (cutV xs lo hi)))
theorem sl_list:SlR X (rSlL X.K):=by
  intro pins s σ H x v vl vu lo hi sl Q I rx hs pl pu h
  obtain ⟨a,xs,rfl,hx,q⟩:=h
  cases rx
  obtain ⟨its,r,ht,hz⟩:=I.list hx
  have hlen:=r.length
  refine ⟨"list",_,slot_list_getitem.lookup,ht.isList.typeIs,?_⟩
  refine wpAny_getItem_list_slice ht.isList hs pl pu .none (by simp) ?_ (by rw [List.size_toArray] <;> omega)
  rw [slicePick_cut,<- hlen]
  refine ⟨.ref s.heap.objs.size,_,I.laid (t':=s.toks) (o:=.lst (cutV xs lo hi)) (fun b ob q=>Heap.get?_push_of_some _ q) (Nat.le_refl _) ?_,rfl,q _ (I.hok.fresh (Nat.le_refl _))⟩
  exact ⟨Nat.le_trans (cutV_length xs lo hi) hz,_,0,(r.drop (HT.sIx xs.length 0 lo)).take (HT.sIx xs.length xs.length hi - HT.sIx xs.length 0 lo),Heap.get?_push_size _ rfl⟩
def flatV:V->Bool
  | .non=>true
  | .bl _=>true
  | .int _=>true
  | .str _=>true
  | _=>false
def eqV:V->V->Bool
  | .non,.non=>true
  | .bl a,.bl b=>a==b
  | .bl a,.int b=>(if a then 1 else 0)==b
  | .int a,.bl b=>a==(if b then 1 else 0)
  | .int a,.int b=>a==b
  | .str a,.str b=>a==b
  | _,_=>false
theorem eqAt_V {A:Around}{s:Shared}{y x:V}{u v:Value}(ry:RelV y u) (rx:RelV x v) (fy:flatV y=true) (fx:flatV x=true):SeqAt.EqAt A s u v (eqV y x):=by
  cases y with
  | non =>
    cases ry
    cases x with
    | non=>cases rx;exact SeqAt.EqAt.same _
    | bl b=>cases rx;exact SeqAt.EqAt.none_bool b
    | int b=>obtain ⟨t,rfl⟩:=rx;exact SeqAt.EqAt.none_int b t
    | str b=>obtain ⟨t,rfl⟩:=rx;exact SeqAt.EqAt.none_str b t
    | _=>exact absurd (show false=true from fx) Bool.false_ne_true
  | bl a =>
    cases ry
    cases x with
    | non=>cases rx;exact SeqAt.EqAt.bool_none a
    | bl b=>cases rx;exact SeqAt.EqAt.bool_bool a b
    | int b=>obtain ⟨t,rfl⟩:=rx;exact SeqAt.EqAt.bool_int a b t
    | str b=>obtain ⟨t,rfl⟩:=rx;exact SeqAt.EqAt.bool_str a b t
    | _=>exact absurd (show false=true from fx) Bool.false_ne_true
  | int a =>
    obtain ⟨t',rfl⟩:=ry
    cases x with
    | non=>cases rx;exact SeqAt.EqAt.int_none a t'
    | bl b=>cases rx;exact SeqAt.EqAt.int_bool a t' b
    | int b=>obtain ⟨t,rfl⟩:=rx;exact SeqAt.EqAt.int_int a t' b t
    | str b=>obtain ⟨t,rfl⟩:=rx;exact SeqAt.EqAt.int_str a t' b t
    | _=>exact absurd (show false=true from fx) Bool.false_ne_true
  | str a =>
    obtain ⟨t',rfl⟩:=ry
    cases x with
    | non=>cases rx;exact SeqAt.EqAt.str_none a t'
    | bl b=>cases rx;exact SeqAt.EqAt.str_bool a t' b
    | int b=>obtain ⟨t,rfl⟩:=rx;exact SeqAt.EqAt.str_int a t' b t
    | str b=>obtain ⟨t,rfl⟩:=rx;exact SeqAt.EqAt.str_str a t' b t
    | _=>exact absurd (show false=true from fx) Bool.false_ne_true
  | _=>exact absurd (show false=true from fy) Bool.false_ne_true
def eqU (x:V) (u:Value):Bool:=match u with
  | .none=>eqV .non x
  | .bool b=>eqV (.bl b) x
  | .int i _=>eqV (.int i) x
  | .str z _=>eqV (.str z) x
  | _=>false
theorem eqU_of {x y:V}{u:Value}(r:RelV y u) (f:flatV y=true):eqU x u=eqV y x:=by
  cases y with
  | non=>cases r;rfl
  | bl b=>cases r;rfl
  | int i=>obtain ⟨t,rfl⟩:=r;rfl
  | str z=>obtain ⟨t,rfl⟩:=r;rfl
  | _=>exact absurd (show false=true from f) Bool.false_ne_true
theorem any_eqU {x:V}:∀ {xs:List V}{us:List Value},Vals xs us->xs.all flatV=true->us.any (eqU x)=xs.any fun y=>eqV y x
  | _,_,.nil,_=>rfl
  | y::xs,u::us,.cons r t,f=>by
    rw [List.all_cons,Bool.and_eq_true] at f
    rw [List.any_cons,List.any_cons,eqU_of r f.1,any_eqU t f.2]
theorem mem_eqAt {A:Around}{s:Shared}{x:V}{v:Value}(rx:RelV x v) (fx:flatV x=true):∀ {xs:List V}{us:List Value},Vals xs us->xs.all flatV=true->∀ u∈us,SeqAt.EqAt A s u v (eqU x u)
  | _,_,.nil,_=>fun u hu=>by cases hu
  | y::xs,u::us,.cons r t,f=>fun u' hu=>by
    rw [List.all_cons,Bool.and_eq_true] at f
    rcases List.mem_cons.mp hu with rfl | hu
    · rw [eqU_of r f.1];exact eqAt_V r rx f.1 fx
    · exact mem_eqAt rx fx t f.2 u' hu
def inV (x:V) (xs:List V):Bool:=xs.any fun y=>eqV y x
def rIn (K:PySem.W.Frag) (neg:Bool):R2:=fun x y H Q=>∃ p xs,y=.ref p/\(SqL K H p xs\/SqT K H p xs)/\flatV x=true/\xs.all flatV=true/\Q (.bl (if neg then !inV x xs else inV x xs)) H
theorem op_notIn_seq:OpR X (compareOp .NotIn) (rIn X.K true):=by
  intro pins s σ H x y v u Q I rx ry h
  obtain ⟨p,xs,rfl,hq,fx,fs,q⟩:=h
  cases ry
  rcases hq with hq | hq
  · obtain ⟨its,r,pl,hz⟩:=I.list hq
    refine SeqAt.notIn_listAt (eqU x) pl.isList (fun w hw=>mem_eqAt rx fx r fs w (by simpa using hw)) ⟨.bl _,H,I,rfl,?_⟩
    rw [show its.toArray.any (eqU x)=its.any (eqU x) by simp,any_eqU r fs]
    exact q
  · obtain ⟨its,r,pl,hz⟩:=I.tuple hq
    refine SeqAt.notIn_tupleAt (eqU x) pl (fun w hw=>mem_eqAt rx fx r fs w (by simpa using hw)) ⟨.bl _,H,I,rfl,?_⟩
    rw [show its.toArray.any (eqU x)=its.any (eqU x) by simp,any_eqU r fs]
    exact q
theorem call_len_seq:CallR X (.builtin "len") (fun xs H Q=>∃ p ys,xs=[.ref p]/\(SqL X.K H p ys\/SqT X.K H p ys)/\Q (.int ys.length) H):=by
  intro pins s σ H xs us Q I r h
  obtain ⟨p,ys,rfl,hq,q⟩:=h
  obtain ⟨u,rfl,rx⟩:=vals1 r
  cases rx
  have hn:=line63
  rcases hq with hq | hq
  · obtain ⟨its,r',pl,hz⟩:=I.list hq
    have hlen:=r'.length
    exact Calls.call_len_list pl.isList (by simp only [List.size_toArray] <;> omega) ⟨.int ys.length,H,I.tok _,⟨s.toks+1,by rw [List.size_toArray,hlen]⟩,q⟩
  · obtain ⟨its,r',pl,hz⟩:=I.tuple hq
    have hlen:=r'.length
    exact len_tuple pl (by simp only [List.size_toArray] <;> omega) ⟨.int ys.length,H,I.tok _,⟨s.toks+1,by rw [List.size_toArray,hlen]⟩,q⟩
theorem call_list_of:CallR X (.type "list") (fun xs H Q=>∃ p ys,xs=[.ref p]/\(SqL X.K H p ys\/SqT X.K H p ys)/\∀ l,H l=none->Q (.ref l) (upd H l (.lst ys))):=by
  intro pins s σ H xs us Q I r h
  obtain ⟨p,ys,rfl,hq,q⟩:=h
  obtain ⟨u,rfl,rx⟩:=vals1 r
  cases rx
  have fin:∀ (its:List Value),Vals ys its->ys.length<=sizeLine->∀ (h':Heap) (c':Nat),(∀ b o',s.heap.get? b=some o'->h'.get? b=some o') ->
      h'.get? s.heap.objs.size=some { cls:=.type "list",dict:=none,data:=.seq its.toArray c',slots:=#[] }->EP X pins σ Q (.ref s.heap.objs.size) { s with heap:=h' }:=fun its r' hz h' c' kp e =>
    ⟨.ref s.heap.objs.size,_,I.laid (t':=s.toks) kp (Nat.le_refl _) (show ObjOk X.prog X.w _ h' _ (.lst ys) from ⟨hz,its,c',r',e⟩),rfl,q _ (I.hok.fresh (Nat.le_refl _))⟩
  rcases hq with hq | hq
  · obtain ⟨its,r',pl,hz⟩:=I.list hq
    have hlen:=r'.length
    obtain ⟨o,ho,hc,n,hd⟩:=pl.isList
    exact call_list_seq p (.inl rfl) ho hc hd (fun h' c' kp e=>fin its r' hz h' c' kp e) (by simp only [List.size_toArray] <;> omega)
  · obtain ⟨its,r',pl,hz⟩:=I.tuple hq
    have hlen:=r'.length
    obtain ⟨o,ho,hc,n,hd⟩:=pl
    exact call_list_seq p (.inr rfl) ho hc hd (fun h' c' kp e=>fin its r' hz h' c' kp e) (by simp only [List.size_toArray] <;> omega)
theorem call_tuple_of:CallR X (.type "tuple") (fun xs H Q=>∃ p ys,xs=[.ref p]/\((SqL X.K H p ys/\∀ l,H l=none->Q (.ref l) (upd H l (.tup ys)))\/(SqT X.K H p ys/\Q (.ref p) H))):=by
  intro pins s σ H xs us Q I r h
  obtain ⟨p,ys,rfl,h⟩:=h
  obtain ⟨u,rfl,rx⟩:=vals1 r
  cases rx
  rcases h with ⟨hq,q⟩ | ⟨hq,q⟩
  · obtain ⟨its,r',pl,hz⟩:=I.list hq
    have hlen:=r'.length
    refine call_tuple_list pl.isList (fun h' kp=>?_) (by simp only [List.size_toArray] <;> omega)
    have I1:Inv X pins σ H { s with heap:=h' }:=I.kept (t':=s.toks) kp
    have I2:Inv X pins σ (upd H h'.objs.size (.tup ys)) { s with heap:=h'.push { cls:=.type "tuple",data:=.seq its.toArray } } :=
      I1.laid (t':=s.toks) (fun b o e=>Heap.get?_push_of_some _ e) (Nat.le_refl _) (show ObjOk X.prog X.w _ _ _ (.tup ys) from ⟨hz,its,r',IsTup.new _ _⟩)
    exact ⟨.ref h'.objs.size,_,I2,rfl,q _ (I1.hok.fresh (Nat.le_refl _))⟩
  · obtain ⟨its,r',pl,hz⟩:=I.tuple hq
    exact call_tuple_same pl ⟨.ref p,H,I,rfl,q⟩
def tyV (K:PySem.W.Frag) (T:String) (x:V) (H:Hp):Prop:=match x with
  | .str _=>T="str"
  | .int _=>T="int"
  | .ref p=>(T="list"/\∃ xs,SqL K H p xs)\/(T="tuple"/\∃ o,K.lookup p=some o/\o.cls=.type "tuple"/\o.dict=none) \/
      (T="dict"/\((∃ kvs,H p=some (.dK kvs))\/∃ kvs,H p=some (.dT kvs)))\/(T="set"/\∃ S n,H p=some (.set S n))
  | _=>False
theorem tyV_is {pins:List (Addr×Obj)}{σ:St}{H:Hp}{s:Shared}{T:String}{x:V}{v:Value}(I:Inv X pins σ H s) (r:RelV x v) (ty:tyV X.K T x H) :
    s.TypeIs v T/\∀ a,v=.ref a->∃ ob,s.heap.get? a=some ob/\ob.dict=none:=by
  cases x with
  | str z =>
    obtain ⟨t,rfl⟩:=r
    cases (show T="str" from ty)
    exact ⟨typeIs_str s z t,fun _ e=>nomatch e⟩
  | int i =>
    obtain ⟨t,rfl⟩:=r
    cases (show T="int" from ty)
    exact ⟨typeIs_int s i t,fun _ e=>nomatch e⟩
  | ref p =>
    cases r
    rcases ty with ⟨rfl,xs,hq⟩ | ⟨rfl,o,hk,hc,hd⟩ | ⟨rfl,hk⟩ | ⟨rfl,S,n,hk⟩
    · obtain ⟨its,_,pl,_⟩:=I.list hq
      refine ⟨pl.isList.typeIs,fun a e=>?_⟩
      cases e
      obtain ⟨o,n,e,c,hd,_⟩:=pl
      exact ⟨o,e,hd⟩
    · refine ⟨⟨o,I.kIn p o hk,hc⟩,fun a e=>?_⟩
      cases e
      exact ⟨o,I.kIn _ o hk,hd⟩
    · have z:∃ o,s.heap.get? p=some o/\o.ExactDict:=by
        rcases hk with ⟨kvs,hk⟩ | ⟨kvs,hk⟩
        · obtain ⟨_,_,_,_,o,_,_,e,ex,_⟩:=I.hok p _ hk
          exact ⟨o,e,ex⟩
        · obtain ⟨_,_,_,_,o,_,_,e,ex,_⟩:=I.hok p _ hk
          exact ⟨o,e,ex⟩
      obtain ⟨o,e,ex⟩:=z
      refine ⟨⟨o,e,ex.1⟩,fun a e2=>?_⟩
      cases e2
      exact ⟨o,e,ex.2.1⟩
    · obtain ⟨o,_,_,_,e,ex,_⟩:=I.hok p _ hk
      refine ⟨⟨o,e,ex.1⟩,fun a e2=>?_⟩
      cases e2
      exact ⟨o,e,ex.2.1⟩
  | _=>exact False.elim ty
def tBM0 (K:PySem.W.Frag) (T:String) (r:V->List V->Hp->VK->Prop) (to:TE):TE:=fun σ H Q=>to σ H fun x H1=>tyV K T x H1/\r x [] H1 Q
def tBM (K:PySem.W.Frag) (T:String) (r:V->List V->Hp->VK->Prop) (to:TE) (t:TA):TE:=fun σ H Q=>to σ H fun x H1=>tyV K T x H1/\t σ H1 fun xs H2=>r x xs H2 Q
variable {o e:Expr}{es:List Expr}{to:TE}{t:TA}{name:Str}{apos cpos:Pos}{T id:String}{r:V->List V->Hp->VK->Prop}
theorem pe_bm0 (pa:PlainAttrs T) (slot:Slot T name id) (hty:typeOf (.builtin id)=pure (.type "method_descriptor")) (hm:MtR X id r) (ho:PE X o to)
    (hbase:attributeBase o name X.env (eval o X.env)=eval o X.env:=by rfl) (hline:(apos.endLine==cpos.line)=true:=by rfl):PE X (.Call (.Attribute o name apos) [] [] cpos) (tBM0 X.K T r to):=by
  intro pins s σ H Q I h
  refine wpAny_Call_method0_late hbase hline (thn (ho pins s σ H _ I h) fun v s1 ⟨x,H1,I1,r1,ty,q1⟩=>?_)
  obtain ⟨h1,h2⟩:=tyV_is I1 r1 ty
  exact ⟨T,id,pa,slot,hty,h1,h2,Calls.callWith_builtin rfl (PySem.evalArgs_none (hm pins s1 σ H1 x [] v [] Q I1 r1 .nil q1))⟩
theorem pe_bm (pa:PlainAttrs T) (slot:Slot T name id) (hty:typeOf (.builtin id)=pure (.type "method_descriptor")) (hm:MtR X id r) (ho:PE X o to) (ha:PA X (e::es) t)
    (hbase:attributeBase o name X.env (eval o X.env)=eval o X.env:=by rfl)
    (hfew:((backTo cpos (starEach (e::es) X.env)).all (fun x=>!x.1)&&(backToKw cpos (keywordEach [] X.env)).all (fun x=>x.1.isSome)
      && decide ((e::es).length+([]:List Keyword).length+(if ([]:List Keyword).isEmpty then 0 else 1)<30))=true:=by rfl)
    (hline:(apos.endLine==cpos.line)=true:=by rfl) (hs:starEach (e::es) X.env=(false,eval e X.env)::starEach es X.env:=by rfl) (hplain:(backTo cpos (starEach es X.env)).any (·.1)=false:=by rfl) :
    PE X (.Call (.Attribute o name apos) (e::es) [] cpos) (tBM X.K T r to t):=by
  intro pins s σ H Q I h
  refine wpAny_Call_method_late hbase hfew hline rfl (thn (ho pins s σ H _ I h) fun v s1 ⟨x,H1,I1,r1,ty,q1⟩=>?_)
  obtain ⟨h1,h2⟩:=tyV_is I1 r1 ty
  refine ⟨T,id,pa,slot,hty,h1,h2,?_⟩
  have hA:=ha cpos pins s1 σ H1 _ I1 q1
  rw [hs] at hA |-
  refine Calls.callWith_builtin (by show (false||(backTo cpos (starEach es X.env)).any (·.1))=false;rw [hplain] <;> rfl) (Calls.evalArgs_plain ?_)
  exact thn hA fun us s2 ⟨vs,H2,I2,r2,q2⟩=>hm pins s2 σ H2 x vs v us Q I2 r1 r2 q2
end
end L2
namespace L2
open PySem PySem.Spec PyProof.Rows
def MtM (X:Cx) (id:String) (r:V->List V->Hp->VK->Prop):Prop :=
  ∀ (pins:List (Addr×Obj)) (s:Shared) (σ:St) (H:Hp) (x:V) (xs:List V) (v:Value) (us:List Value) (Q:VK),Inv X pins σ H s->RelV x v->Vals xs us->r x xs H Q ->
    wpAny (model X.prog X.w) X.A (call (.builtin id) (v::us)) (EP X pins σ Q) X.xe s
theorem Vals.one:∀ {x:V}{us:List Value},Vals [x] us->∃ u,us=[u]/\RelV x u
  | _,_,.cons r .nil=>⟨_,rfl,r⟩
theorem Vals.zero:∀ {us:List Value},Vals [] us->us=[]
  | _,.nil=>rfl
theorem Vals.dropLast {xs:List V}{us:List Value}(h:Vals xs us):Vals xs.dropLast us.dropLast:=by
  induction h with
  | nil=>exact .nil
  | cons r t ih =>
    cases t with
    | nil=>exact .nil
    | cons q t'=>exact .cons r ih
theorem erase_last {α:Type}(l:List α):l.eraseIdx (l.length - 1)=l.dropLast:=by
  induction l with
  | nil=>rfl
  | cons a r ih =>
    cases r with
    | nil=>rfl
    | cons b r =>
      have e:(a::b::r).length - 1=((b::r).length - 1)+1:=by
        have h1:(a::b::r).length=r.length+2:=rfl
        have h2:(b::r).length=r.length+1:=rfl
        omega
      rw [e,List.eraseIdx_cons_succ,ih]
      all_goals rfl
section
variable {X:Cx}{pins:List (Addr×Obj)}{σ:St}{H:Hp}{s:Shared}{l b:Addr}{xs ys zs:List V}
theorem Inv.lset {its its':List Value}{n:Nat}{f:Array Value->Array Value}{t':Nat}(I:Inv X pins σ H s) (hH:H l=some (.lst xs))
    (e:s.heap.get? l=some { cls:=.type "list",data:=.seq its.toArray n }) (hf:f its.toArray=its'.toArray) (hv:Vals ys its') (hz:ys.length<=sizeLine) :
    Inv X pins σ (upd H l (.lst ys)) { s with heap:=s.heap.update l (Obj.mapSeq f),toks:=t' }:=by
  have q:=PySem.IsL.update e f
  rw [hf] at q
  refine I.write (x:=l) (e:=l) (by rw [hH];exact trivial) (.inl rfl) (fun b' u hb hu=>(Heap.get?_update_other s.heap (Obj.mapSeq f) (Ne.symm hb)).trans hu) ⟨_,q⟩ ?_
  exact ⟨hz,its',_,hv,q⟩
theorem Inv.lnew {its:List Value}{t':Nat}(I:Inv X pins σ H s) (hv:Vals ys its) (hz:ys.length<=sizeLine) :
    Inv X pins σ (upd H s.heap.objs.size (.lst ys)) { s with heap:=s.heap.push { cls:=.type "list",data:=.seq its.toArray },toks:=t' } :=
  I.laid (fun _ _ q=>Heap.get?_push_of_some _ q) (Nat.le_refl _) ⟨hz,its,0,hv,Heap.get?_push_size _ rfl⟩
theorem Inv.fresh (I:Inv X pins σ H s):H s.heap.objs.size=none:=I.hok.fresh (Nat.le_refl _)
theorem Inv.lstM (I:Inv X pins σ H s) (hH:H l=some (.lst xs)):xs.length<=sizeLine/\∃ (its:List Value) (n:Nat),Vals xs its/\xs.length=its.length/\s.heap.get? l=some { cls:=.type "list",data:=.seq its.toArray n }:=by
  obtain ⟨z,its,n,r,e⟩:=I.hok l _ hH
  exact ⟨z,its,n,r,r.length,e⟩
theorem notLongL {n:Nat}(h:n<=sizeLine):Builtin.List.listTooLong n=false:=by
  unfold Builtin.List.listTooLong
  exact decide_eq_false (by omega)
end
section
variable {X:Cx}
def rAppend:V->List V->Hp->VK->Prop:=fun x vs H Q=>∃ l xs y,x=.ref l/\vs=[y]/\H l=some (.lst xs)/\xs.length<sizeLine/\Q .non (upd H l (.lst (xs++[y])))
theorem mt_append:MtM X "list.append" rAppend:=by
  intro pins s σ H x vs v us Q I rx rv h
  obtain ⟨l,xs,y,rfl,rfl,hH,hz,q⟩:=h
  cases rx
  obtain ⟨u,rfl,ru⟩:=rv.one
  obtain ⟨z,its,n,r,hl,e⟩:=I.lstM hH
  refine call_meets F.slot_list_append ⟨_,e,rfl⟩ F.entry_list_append (F.args_list_append_2 _ _) (PySem.list_append l its.toArray n u (by rw [List.size_toArray];omega)) ⟨e,?_⟩
  refine ⟨.non,_,I.lset (its':=its++[u]) hH e (by simp) (r.append (.cons ru .nil)) ?_,rfl,q⟩
  rw [zLA,List.length_singleton]
  omega
def rExtend:V->List V->Hp->VK->Prop:=fun x vs H Q=>∃ l b xs zs,x=.ref l/\vs=[.ref b]/\H l=some (.lst xs)/\H b=some (.lst zs)/\xs.length+zs.length<=sizeLine/\Q .non (upd H l (.lst (xs++zs)))
theorem mt_extend:MtM X "list.extend" rExtend:=by
  intro pins s σ H x vs v us Q I rx rv h
  obtain ⟨l,b,xs,zs,rfl,rfl,hH,hB,hz,q⟩:=h
  cases rx
  obtain ⟨u,rfl,ru⟩:=rv.one
  cases ru
  obtain ⟨z,its,n,r,hl,e⟩:=I.lstM hH
  obtain ⟨z2,its2,n2,r2,hl2,e2⟩:=I.lstM hB
  have hsz:its.toArray.size+its2.toArray.size<=sizeLine:=by rw [List.size_toArray,List.size_toArray];omega
  have hlong:¬ (!its.toArray.isEmpty&&Builtin.List.listTooLong (its.toArray.size+its2.toArray.size))=true:=by
    rw [notLongL hsz,Bool.and_false]
    exact Bool.false_ne_true
  refine call_meets F.slot_list_extend ⟨_,e,rfl⟩ F.entry_list_extend (F.args_list_extend_2 _ _)
    (AutoSeq1.list_extend_list_list_0 l its.toArray n b its2.toArray n2 hlong (by rw [List.size_toArray];omega) (by omega)) ⟨e,e2,?_⟩
  refine ⟨.non,_,I.lset (its':=its++its2) hH e (by simp) (r.append r2) ?_,rfl,q⟩
  rw [zLA]
  omega
def rPop:V->List V->Hp->VK->Prop:=fun x vs H Q=>∃ l xs y,x=.ref l/\vs=[]/\H l=some (.lst xs)/\xs[xs.length - 1]?=some y/\Q y (upd H l (.lst xs.dropLast))
theorem mt_pop:MtM X "list.pop" rPop:=by
  intro pins s σ H x vs v us Q I rx rv h
  obtain ⟨l,xs,y,rfl,rfl,hH,hy,q⟩:=h
  cases rx
  have hus:=rv.zero
  subst hus
  obtain ⟨z,its,n,r,hl,e⟩:=I.lstM hH
  obtain ⟨u,hu,ru⟩:=r.get hy
  have hy':its.toArray[its.toArray.size - 1]?=some u:=by
    show its.toArray[its.length - 1]?=some u
    rw [<- Array.getElem?_toList,<- hl]
    exact hu
  refine call_meets F.slot_list_pop ⟨_,e,rfl⟩ F.entry_list_pop (F.args_list_pop_1 _) (MeetsSeq.list_pop_last l its.toArray n u hy' (by rw [List.size_toArray];omega)) ⟨e,?_⟩
  refine ⟨y,_,I.lset (its':=its.dropLast) hH e ?_ r.dropLast ?_,ru,q⟩
  · show its.toArray.eraseIdxIfInBounds (its.toArray.size - 1)=its.dropLast.toArray
    rw [List.size_toArray,List.eraseIdxIfInBounds_toArray,erase_last]
  · rw [List.length_dropLast]
    omega
def rCat:R2:=fun x y H Q=>∃ l b xs zs,x=.ref l/\y=.ref b/\H l=some (.lst xs)/\H b=some (.lst zs)/\xs.length+zs.length<=sizeLine/\∀ p,H p=none->Q (.ref p) (upd H p (.lst (xs++zs)))
theorem op_cat:OpR X (binaryOp .Add) rCat:=by
  intro pins s σ H x y v u Q I rx ry h
  obtain ⟨l,b,xs,zs,rfl,rfl,hH,hB,hz,q⟩:=h
  cases rx
  cases ry
  obtain ⟨z,its,n,r,hl,e⟩:=I.lstM hH
  obtain ⟨z2,its2,n2,r2,hl2,e2⟩:=I.lstM hB
  refine PySem.P.add_list e e2 ?_ (by rw [List.size_toArray,List.size_toArray];omega)
  have ea:its.toArray++its2.toArray=(its++its2).toArray:=by simp
  rw [ea]
  exact ⟨.ref _,_,I.lnew (t':=s.toks) (r.append r2) (by rw [zLA];omega),rfl,q _ I.fresh⟩
end
section
variable {prog:Program}{w:World}{A:Around}{E:Value->Shared->Prop}{s:Shared}
end
section
variable {X:Cx}
end
end L2
namespace L2
open PySem PySem.Spec PyProof.Rows
section
variable {κ:Type} [DecidableEq κ]
def valV (kvs:List (κ×V)) (k:κ):Option V:=(kvs.find? fun kv=>decide (kv.1=k)).map (·.2)
def putK (kvs:List (κ×V)) (k:κ) (v:V):List (κ×V) :=
  if (kvs.any fun kv=>decide (kv.1=k))=true then kvs.map (fun kv=>if kv.1=k then (kv.1,v) else kv) else kvs++[(k,v)]
theorem valV_pos {p:κ×V}{r:List (κ×V)}{k:κ}(e:p.1=k):valV (p::r) k=some p.2:=by simp [valV,List.find?_cons,e]
theorem valV_neg {p:κ×V}{r:List (κ×V)}{k:κ}(e:¬ p.1=k):valV (p::r) k=valV r k:=by simp [valV,List.find?_cons,e]
theorem valV_any (k:κ):∀ kvs:List (κ×V),(kvs.any fun kv=>decide (kv.1=k))=(valV kvs k).isSome
  | []=>rfl
  | p::r=>by
    rw [List.any_cons]
    by_cases e:p.1=k
    · simp only [valV_pos e,decide_eq_true e,Bool.true_or,Option.isSome_some]
    · rw [valV_neg e,decide_eq_false e,Bool.false_or];exact valV_any k r
theorem valV_map (k j:κ) (y:V):∀ kvs:List (κ×V),valV (kvs.map fun kv=>if kv.1=k then (kv.1,y) else kv) j=(valV kvs j).map fun x=>if j=k then y else x
  | []=>rfl
  | p :: r=>by
    have ih:=valV_map k j y r
    rw [List.map_cons]
    by_cases h:p.1=k
    · rw [if_pos h]
      by_cases e:p.1=j
      · rw [valV_pos (p:=(p.1,y)) e,valV_pos e,Option.map_some,if_pos (e.symm.trans h)]
      · rw [valV_neg (p:=(p.1,y)) e,valV_neg e,ih]
    · rw [if_neg h]
      by_cases e:p.1=j
      · rw [valV_pos (p:=p) e,valV_pos e,Option.map_some,if_neg (fun z=>h (e.trans z))]
      · rw [valV_neg (p:=p) e,valV_neg e,ih]
theorem valV_snoc (k j:κ) (y:V):∀ kvs:List (κ×V),valV kvs k=none->valV (kvs++[(k,y)]) j=if j=k then some y else valV kvs j
  | [],_=>by
    by_cases e:k=j
    · rw [if_pos e.symm];exact valV_pos (p:=(k,y)) e
    · rw [if_neg (fun z=>e z.symm)];exact valV_neg (p:=(k,y)) e
  | p::r,hn=>by
    rw [List.cons_append]
    have hk:¬ p.1=k:=fun z=>by rw [valV_pos z] at hn;cases hn
    rw [valV_neg hk] at hn
    have ih:=valV_snoc k j y r hn
    by_cases e:p.1=j
    · rw [valV_pos e,valV_pos e,if_neg (fun z=>hk (e.trans z))]
    · rw [valV_neg e,valV_neg e,ih]
theorem valV_put (kvs:List (κ×V)) (k j:κ) (y:V):valV (putK kvs k y) j=if j=k then some y else valV kvs j:=by
  unfold putK
  by_cases a:(kvs.any fun kv=>decide (kv.1=k))=true
  · rw [if_pos a,valV_map]
    rw [valV_any] at a
    by_cases e:j=k
    · obtain ⟨x,hx⟩:=Option.isSome_iff_exists.mp a
      rw [if_pos e,e,hx,Option.map_some,if_pos rfl]
    · rw [if_neg e]
      cases valV kvs j with
      | none=>rfl
      | some x=>rw [Option.map_some,if_neg e]
  · rw [if_neg a]
    refine valV_snoc k j y kvs ?_
    rw [valV_any] at a
    cases q:valV kvs k with
    | none=>rfl
    | some x=>rw [q] at a;exact (a rfl).elim
theorem length_putK (kvs:List (κ×V)) (k:κ) (v:V):(putK kvs k v).length<=kvs.length+1:=by
  unfold putK
  split
  · rw [zLM];omega
  · rw [zLA,zLC,zLN];omega
theorem putK_new {kvs:List (κ×V)}{k:κ}(v:V) (h:valV kvs k=none):putK kvs k v=kvs++[(k,v)]:=by
  unfold putK
  rw [valV_any,h]
  exact if_neg (by decide)
theorem RelO.isSome_eq {o:Option V}{u:Option Value}(r:RelO o u):o.isSome=u.isSome:=by
  cases o with
  | none=>cases u with
    | none=>rfl
    | some _=>exact (show False from r).elim
  | some _=>cases u with
    | none=>exact (show False from r).elim
    | some _=>rfl
theorem RelO.getD {o:Option V}{u:Option Value}{d:V}{d':Value}(r:RelO o u) (rd:RelV d d'):RelV (o.getD d) (u.getD d'):=by
  cases o with
  | none=>cases u with
    | none=>exact rd
    | some _=>exact (show False from r).elim
  | some _=>cases u with
    | none=>exact (show False from r).elim
    | some _=>exact r
theorem KV.val {kvs:List (κ×V)}{vs:List (κ×Value)}(r:KV kvs vs) (k:κ):RelO (valV kvs k) (valueAt vs k):=by
  unfold KV at r
  induction r with
  | nil=>exact True.intro
  | @cons p q ps qs h t ih =>
    obtain ⟨h1,h2⟩:=h
    by_cases e:p.1=k
    · have e':q.1=k:=h1.symm.trans e
      have b:valueAt (q::qs) k=some q.2:=by simp [valueAt,List.find?_cons,e']
      rw [valV_pos e,b];exact h2
    · have e':¬ q.1=k:=fun z=>e (h1.trans z)
      have b:valueAt (q::qs) k=valueAt qs k:=by simp [valueAt,List.find?_cons,e']
      rw [valV_neg e,b];exact ih
theorem KV.any {kvs:List (κ×V)}{vs:List (κ×Value)}(r:KV kvs vs) (k:κ):(kvs.any fun kv=>decide (kv.1=k))=vs.any fun kv=>decide (kv.1=k):=by
  unfold KV at r
  induction r with
  | nil=>rfl
  | cons h t ih=>rw [List.any_cons,List.any_cons,ih,h.1]
theorem KV.repl {kvs:List (κ×V)}{vs:List (κ×Value)}(r:KV kvs vs) (k:κ) {y:V}{u:Value}(ry:RelV y u) :
    KV (kvs.map fun kv=>if kv.1=k then (kv.1,y) else kv) (vs.map fun kv=>if kv.1=k then (kv.1,u) else kv):=by
  unfold KV at r |-
  induction r with
  | nil=>exact .nil
  | @cons p q ps qs h t ih =>
    rw [List.map_cons,List.map_cons]
    refine .cons ?_ ih
    obtain ⟨h1,h2⟩:=h
    by_cases e:p.1=k
    · rw [if_pos e,if_pos (h1.symm.trans e)];exact ⟨h1,ry⟩
    · rw [if_neg e,if_neg (fun z=>e (h1.trans z))];exact ⟨h1,h2⟩
theorem KV.put {kvs:List (κ×V)}{vs:List (κ×Value)}(r:KV kvs vs) (k:κ) {y:V}{u:Value}(ry:RelV y u):KV (putK kvs k y) (stored vs k u):=by
  unfold putK stored
  rw [r.any k]
  by_cases e:(vs.any fun kv=>decide (kv.1=k))=true
  · rw [if_pos e,if_pos e];exact r.repl k ry
  · rw [if_neg e,if_neg e];exact Paired.snoc r ⟨rfl,ry⟩
theorem KV.keys {kvs:List (κ×V)}{vs:List (κ×Value)}(r:KV kvs vs):kvs.map (·.1)=vs.map (·.1):=by
  unfold KV at r
  induction r with
  | nil=>rfl
  | cons h t ih=>rw [List.map_cons,List.map_cons,ih,h.1]
theorem KV.length {kvs:List (κ×V)}{vs:List (κ×Value)}(r:KV kvs vs):kvs.length=vs.length:=Paired.length r
end
theorem kV_is {P:Program}{w:World}{k:Key}{u:Value}(r:RelV (kV k) u):(mixKind P w).is k u=true:=by
  cases k with
  | inl i=>obtain ⟨t,e⟩:=(show ∃ t,u=Value.int i t from r);subst e;exact mixKind_int P w i t
  | inr x=>obtain ⟨t,e⟩:=(show ∃ t,u=Value.str x t from r);subst e;exact mixKind_str P w x t
theorem items_are {P:Program}{w:World}:∀ {ks:List Key}{us:List Value},Vals (ks.map kV) us->ItemsAre (mixKind P w) ks us
  | [],_,r=>by rw [List.map_nil] at r;cases r;exact .nil
  | k::ks,_,r=>by
    rw [List.map_cons] at r
    cases r with
    | cons h t=>exact .cons (kV_is h) (items_are t)
abbrev KT (H:Hp):List (List Key×V)->List (List Key×Addr×Value)->Prop:=Paired fun p q=>p.1=q.1/\H q.2.1=some (.tup (p.1.map kV))/\RelV p.2 q.2.2
theorem KT.val {H:Hp}{kvs:List (List Key×V)}{xs:List (List Key×Addr×Value)}(r:KT H kvs xs) (k:List Key):RelO (valV kvs k) ((atKey xs k).map (·.2)):=by
  induction r with
  | nil=>exact True.intro
  | @cons p q ps qs h t ih =>
    obtain ⟨h1,_,h2⟩:=h
    by_cases e:p.1=k
    · have e':q.1=k:=h1.symm.trans e
      have b:atKey (q::qs) k=some q.2:=by simp [atKey,List.find?_cons,e']
      rw [valV_pos e,b];exact h2
    · have e':¬ q.1=k:=fun z=>e (h1.trans z)
      have b:atKey (q::qs) k=atKey qs k:=by simp [atKey,List.find?_cons,e']
      rw [valV_neg e,b];exact ih
theorem KT.repl {H:Hp}{kvs:List (List Key×V)}{xs:List (List Key×Addr×Value)}(r:KT H kvs xs) (k:List Key) {y:V}{u:Value}(ry:RelV y u) :
    KT H (kvs.map fun kv=>if kv.1=k then (kv.1,y) else kv) (xs.map (putAt k u)):=by
  induction r with
  | nil=>exact .nil
  | @cons p q ps qs h t ih =>
    rw [List.map_cons,List.map_cons]
    refine .cons ?_ ih
    obtain ⟨h1,h2,h3⟩:=h
    unfold putAt
    by_cases e:p.1=k
    · rw [if_pos e,if_pos (h1.symm.trans e)];exact ⟨h1,h2,ry⟩
    · rw [if_neg e,if_neg (fun z=>e (h1.trans z))];exact ⟨h1,h2,h3⟩
theorem KT.put {H:Hp}{kvs:List (List Key×V)}{xs:List (List Key×Addr×Value)}(r:KT H kvs xs) (k:List Key) {b:Addr}{y:V}{u:Value}(hb:H b=some (.tup (k.map kV))) (ry:RelV y u) :
    KT H (putK kvs k y) (storedH xs k b u):=by
  have e:(kvs.any fun kv=>decide (kv.1=k))=(atKey xs k).isSome:=by
    rw [valV_any,(r.val k).isSome_eq,Option.isSome_map]
  unfold putK storedH
  rw [e]
  by_cases q:(atKey xs k).isSome=true
  · rw [if_pos q,if_pos q];exact r.repl k ry
  · rw [if_neg q,if_neg q];exact Paired.snoc r ⟨rfl,hb,ry⟩
theorem KT.keeps {H H':Hp}{kvs:List (List Key×V)}{xs:List (List Key×Addr×Value)}(r:KT H kvs xs) (ht:∀ b ys,H b=some (.tup ys)->H' b=some (.tup ys)):KT H' kvs xs :=
  Paired.mapP r fun _ _ z=>⟨z.1,ht _ _ z.2.1,z.2.2⟩
section
variable {P:Program}{w:World}{H:Hp}{h:Heap}{a:Addr}
theorem rd_of {u:HO}(ok:HOk P w H h) (e:Rd H a u):ObjOk P w H h a u:=e.ok ok
theorem dk_rd {kvs:List (Key×V)}(ok:HOk P w H h) (e:Rd H a (.dK kvs)):kvs.length<=sizeLine/\(a==sysModules)=false/\∃ vs,KV kvs vs/\h.DictOf (mixKind P w) a vs :=
  show ObjOk P w H h a (.dK kvs) from rd_of ok e
theorem dk_of {kvs:List (Key×V)}(ok:HOk P w H h) (e:H a=some (.dK kvs)):kvs.length<=sizeLine/\(a==sysModules)=false/\∃ vs,KV kvs vs/\h.DictOf (mixKind P w) a vs:=dk_rd ok (.inl e)
theorem key_of {ks:List Key}(ok:HOk P w H h) (e:H a=some (.tup (ks.map kV))):(tupleKind (mixKind P w)).is h ks a:=by
  obtain ⟨_,its,r,o,h1,h2,n,h3⟩:=(show ObjOk P w H h a (.tup (ks.map kV)) from ok a _ e)
  exact ⟨o,its.toArray,n,h1,h2,h3,by simpa using items_are r⟩
theorem dt_rd {kvs:List (List Key×V)}(ok:HOk P w H h) (e:Rd H a (.dT kvs)):kvs.length<=sizeLine/\(a==sysModules)=false /\
    ∃ xs,KT H kvs xs/\h.DictOfH (tupleKind (mixKind P w)) a xs:=by
  obtain ⟨z,y,xs,r,o,es,ep,h1,h2,h3,h4,h5⟩:=(show ObjOk P w H h a (.dT kvs) from rd_of ok e)
  refine ⟨z,y,xs,r,o,es,ep,h1,h2,h3,h4,fun x hx=>?_,h5⟩
  have all:∀ {l:List (List Key×V)}{m:List (List Key×Addr×Value)},KT H l m->∀ x∈m,(tupleKind (mixKind P w)).is h x.1 x.2.1:=by
    intro l m q
    induction q with
    | nil=>intro x hx;exact nomatch hx
    | @cons p q ps qs hq t ih =>
      intro x hx
      rcases List.mem_cons.mp hx with e | hx
      · subst e
        exact key_of ok (by rw [<- hq.1];exact hq.2.1)
      · exact ih x hx
  exact all r x hx
theorem dt_of {kvs:List (List Key×V)}(ok:HOk P w H h) (e:H a=some (.dT kvs)):kvs.length<=sizeLine/\(a==sysModules)=false /\
    ∃ xs,KT H kvs xs/\h.DictOfH (tupleKind (mixKind P w)) a xs:=dt_rd ok (.inl e)
end
def DGet (H:Hp) (a:Addr) (y:V) (r:Option V):Prop :=
  (∃ kvs k,Rd H a (.dK kvs)/\y=kV k/\r=valV kvs k)\/∃ kvs k b,Rd H a (.dT kvs)/\y=.ref b/\H b=some (.tup (k.map kV))/\r=valV kvs k
def DPut (H:Hp) (a:Addr) (y v:V) (H':Hp):Prop :=
  (∃ kvs k,H a=some (.dK kvs)/\y=kV k/\kvs.length<sizeLine/\H'=upd H a (.dK (putK kvs k v))) \/
  ∃ kvs k b,H a=some (.dT kvs)/\y=.ref b/\H b=some (.tup (k.map kV))/\kvs.length<sizeLine/\H'=upd H a (.dT (putK kvs k v))
theorem DGet.k {H:Hp}{a:Addr}{kvs:List (Key×V)}{k:Key}(e:H a=some (.dK kvs)):DGet H a (kV k) (valV kvs k):=.inl ⟨kvs,k,.inl e,rfl,rfl⟩
theorem DPut.k {H:Hp}{a:Addr}{kvs:List (Key×V)}{k:Key}{v:V}(e:H a=some (.dK kvs)) (hl:kvs.length<sizeLine):DPut H a (kV k) v (upd H a (.dK (putK kvs k v))):=.inl ⟨kvs,k,e,rfl,hl,rfl⟩
section
variable {X:Cx}{pins:List (Addr×Obj)}{σ:St}{H:Hp}{s:Shared}{a:Addr}{y v:V}{u r:Value}{o:Option V}{A:Around}{E:Value->Shared->Prop}
theorem Inv.big (I:Inv X pins σ H s):sysModules<s.heap.objs.size:=by
  have h:mainGlobals<s.heap.objs.size:=(I.mod.glob.keeps I.bk).lt
  exact Nat.lt_trans (by decide) h
theorem d_getItem {Q:Value->Shared->Prop}(hu:A.units+1<cLine) (I:Inv X pins σ H s) (g:DGet H a y (some v)) (ry:RelV y u) (h:∀ w' s',Inv X pins σ H s'->RelV v w'->Q w' s') :
    wpAny (model X.prog X.w) A (getItem (.ref a) u) Q E s:=by
  rcases g with ⟨kvs,k,e,ey,l⟩ | ⟨kvs,k,b,e,ey,eb,l⟩
  · subst ey
    obtain ⟨z,hd,vs,rel,dd⟩:=dk_rd I.hok e
    obtain ⟨w',hw,rw'⟩:=RelO.some_of (v:=v) (o:=valueAt vs k) (by rw [l];exact rel.val k)
    exact wpAny_getItem_of (kV_is ry) dd.mapOf hw (h w' _ (I.tok _) rw')
  · subst ey
    cases (show u=Value.ref b from ry)
    obtain ⟨z,hd,xs,rel,dd⟩:=dt_rd I.hok e
    obtain ⟨w',hw,rw'⟩:=RelO.some_of (v:=v) (o:=(atKey xs k).map (·.2)) (by rw [l];exact rel.val k)
    obtain ⟨p,hp,hp2⟩:=Option.map_eq_some_iff.mp hw
    refine wpAny_getItem_heap (tupleKind_room_in1 hu) (key_of I.hok eb) dd hp ?_
    rw [hp2]
    exact h w' _ (I.tok _) rw'
theorem d_in {Q:Value->Shared->Prop}(hu:A.units+1<cLine) (I:Inv X pins σ H s) (g:DGet H a y o) (ry:RelV y u) (h:∀ s',Inv X pins σ H s'->Q (.bool o.isSome) s') :
    wpAny (model X.prog X.w) A (compareOp .In u (.ref a)) Q E s:=by
  rcases g with ⟨kvs,k,e,ey,l⟩ | ⟨kvs,k,b,e,ey,eb,l⟩
  · subst ey
    obtain ⟨z,hd,vs,rel,dd⟩:=dk_rd I.hok e
    refine wpAny_in_of (kV_is ry) hd dd.mapOf ?_
    rw [<- (rel.val k).isSome_eq,<- l]
    exact h _ (I.tok _)
  · subst ey
    cases (show u=Value.ref b from ry)
    obtain ⟨z,hd,xs,rel,dd⟩:=dt_rd I.hok e
    refine wpAny_in_heap (tupleKind_room_in1 hu) (key_of I.hok eb) hd dd ?_
    have q:=(rel.val k).isSome_eq
    rw [Option.isSome_map] at q
    rw [<- q,<- l]
    exact h _ (I.tok _)
theorem d_notIn {Q:Value->Shared->Prop}(hu:A.units+1<cLine) (I:Inv X pins σ H s) (g:DGet H a y o) (ry:RelV y u) (h:∀ s',Inv X pins σ H s'->Q (.bool (!o.isSome)) s') :
    wpAny (model X.prog X.w) A (compareOp .NotIn u (.ref a)) Q E s:=by
  rcases g with ⟨kvs,k,e,ey,l⟩ | ⟨kvs,k,b,e,ey,eb,l⟩
  · subst ey
    obtain ⟨z,hd,vs,rel,dd⟩:=dk_rd I.hok e
    refine wpAny_notIn_of (kV_is ry) hd dd.mapOf ?_
    rw [<- (rel.val k).isSome_eq,<- l]
    exact h _ (I.tok _)
  · subst ey
    cases (show u=Value.ref b from ry)
    obtain ⟨z,hd,xs,rel,dd⟩:=dt_rd I.hok e
    refine wpAny_notIn_heap (tupleKind_room_in1 hu) (key_of I.hok eb) hd dd ?_
    have q:=(rel.val k).isSome_eq
    rw [Option.isSome_map] at q
    rw [<- q,<- l]
    exact h _ (I.tok _)
theorem d_write {h':Heap}{t':Nat}{ob:HO}(I:Inv X pins σ H s) (mu:Mut (H a)) (hs:Heap.SameBut a s.heap h') (he:∃ q,h'.get? a=some q) (new:ObjOk X.prog X.w (upd H a ob) h' a ob) :
    Inv X pins σ (upd H a ob) { s with heap:=h',toks:=t' } :=
  I.write (x:=a) (e:=a) mu (.inl rfl) (fun b q hb z=>(hs.2 b hb).trans z) he new
theorem dk_new {P:Program}{w:World}{H':Hp}{h':Heap}{kvs:List (Key×V)}{vs:List (Key×Value)}(z:kvs.length<=sizeLine) (hd:(a==sysModules)=false) (rel:KV kvs vs) (dd:h'.DictOf (mixKind P w) a vs) :
    ObjOk P w H' h' a (.dK kvs):=⟨z,hd,vs,rel,dd⟩
theorem d_setItem {H':Hp}{Q:Unit->Shared->Prop}(hu:A.units+1<cLine) (I:Inv X pins σ H s) (g:DPut H a y v H') (ry:RelV y u) (rv:RelV v r) (h:∀ s',Inv X pins σ H' s'->Q () s') :
    wpAny (model X.prog X.w) A (setItem (.ref a) u r) Q E s:=by
  rcases g with ⟨kvs,k,e,ey,l,eH⟩ | ⟨kvs,k,b,e,ey,eb,l,eH⟩
  · subst ey eH
    obtain ⟨z,hd,vs,rel,dd⟩:=dk_of I.hok e
    have hz:vs.length<=sizeLine:=by rw [<- rel.length];exact z
    have hl:(putK kvs k v).length<=sizeLine:=by have:=length_putK kvs k v;omega
    refine wpAny_setItem_pairs (hsz:=hz) (kV_is ry) dd fun h' dd' hs=>h _ ?_
    have he:∃ q,h'.get? a=some q:=let ⟨q,_,_,hq,_⟩:=dd';⟨q,hq⟩
    exact d_write I (by rw [e];exact True.intro) hs he (dk_new hl hd (rel.put k rv) dd')
  · subst ey eH
    cases (show u=Value.ref b from ry)
    obtain ⟨z,hd,xs,rel,dd⟩:=dt_of I.hok e
    have hz:xs.length<=sizeLine:=by rw [<- Paired.length rel];exact z
    have hl:(putK kvs k v).length<=sizeLine:=by have:=length_putK kvs k v;omega
    refine wpAny_setItem_heap (hsz:=hz) (tupleKind_room_in1 hu) (key_of I.hok eb) dd fun h' dd' hs=>h _ ?_
    obtain ⟨q,es,ep,hq,h2,h3,h4,_,h5⟩:=dd'
    refine d_write I (by rw [e];exact True.intro) hs ⟨q,hq⟩ ⟨hl,hd,_,(rel.put k eb rv).keeps fun c ys ec=>?_,q,es,ep,hq,h2,h3,h4,h5⟩
    rw [upd_ne (ne_of ec e (fun z=>nomatch z))]
    exact ec
end
section
variable {X:Cx}{pins:List (Addr×Obj)}{σ:St}{H:Hp}{s:Shared}{a:Addr}{kvs:List (Key×V)}{k:Key}{u:Value}{A:Around}{E:Value->Shared->Prop}
theorem d_len {Q:Value->Shared->Prop}(I:Inv X pins σ H s) (e:Rd H a (.dK kvs)) (h:∀ t s',Inv X pins σ H s'->Q (.int kvs.length t) s'):wpAny (model X.prog X.w) A (call (.builtin "len") [.ref a]) Q E s:=by
  obtain ⟨z,hd,vs,rel,dd⟩:=dk_rd I.hok e
  refine call_len_dict hd dd (by rw [<- rel.length];rw [sizeLine_eq] at z;omega) ?_
  rw [<- rel.length]
  exact h _ _ (I.tok _)
end
def NoSl (i:Expr):Prop:=∀ ov iv,subscripted i false ov iv=operate [ov,iv] (getItem ov iv)
theorem subD_of {prog:Program}{w:World}{A:Around}{E:Value->Shared->Prop}{s:Shared}{env:Env}{value slice:Expr}{pos:Pos}{T id:String}{Q:Value->Shared->Prop}
    (hl:typeLookup (.type T) "__getitem__"=pure (some (.builtin id))) (hs:NoSl slice)
    (h:wpAny (model prog w) A (eval value env) (fun o s₁=>wpAny (model prog w) A (eval slice env) (fun i s₂=>s₂.TypeIs o T/\wpAny (model prog w) A (getItem o i) Q E s₂) E s₁) E s) :
    wpAny (model prog w) A (eval (.Subscript value slice pos) env) Q E s:=by
  refine Subscript_ (wpAny_mono h (fun o s₁ h₁=>wpAny_mono h₁ (fun i s₂ h₂=>?_) fun _ _ x=>x) fun _ _ x=>x)
  obtain ⟨hT,h₂⟩:=h₂
  unfold subscriptTail
  refine wpAny_bind ?_
  rw [getitemInPython_of_ne hT.not_modules]
  refine wpAny_bind (wpAny_specialOf hT hl ?_)
  have fin:wpAny (model prog w) A (subscripted slice false o i) (fun r s₃=>wpAny (model prog w) A (letTemporaryGo value o r >>= fun _=>pure r) Q E s₃) E s₂:=by
    rw [hs o i]
    exact wpAny_operating (wpAny_mono h₂ (fun r s₃ h₃=>wpAny_bind (wpAny_letTemporaryGo (wpAny_pure h₃))) fun _ _ x=>x)
  first
    | exact wpAny_pure (wpAny_bind fin)
    | exact wpAny_bind (wpAny_pure (wpAny_bind fin))
    | exact wpAny_bind fin
theorem dict_typeIs {X:Cx}{pins:List (Addr×Obj)}{σ:St}{H:Hp}{s:Shared}{a:Addr}{y:V}{o:Option V}(I:Inv X pins σ H s) (g:DGet H a y o):s.TypeIs (.ref a) "dict":=by
  rcases g with ⟨kvs,k,e,_,_⟩ | ⟨kvs,k,b,e,_,_,_⟩
  · obtain ⟨_,_,vs,_,dd⟩:=dk_rd I.hok e
    exact dd.typeIs
  · obtain ⟨_,_,xs,_,dd⟩:=dt_rd I.hok e
    exact dd.typeIs
def tDGet (td ty:TE):TE:=fun σ H Q=>td σ H fun x H1=>ty σ H1 fun y H2=>∃ a v,x=.ref a/\DGet H2 a y (some v)/\Q v H2
def tDIn (ty td:TE):TE:=fun σ H Q=>ty σ H fun y H1=>td σ H1 fun x H2=>∃ a o,x=.ref a/\DGet H2 a y o/\Q (.bl o.isSome) H2
def tDNotIn (ty td:TE):TE:=fun σ H Q=>ty σ H fun y H1=>td σ H1 fun x H2=>∃ a o,x=.ref a/\DGet H2 a y o/\Q (.bl (!o.isSome)) H2
def sDPut (td ty tv:TE):TS:=fun D σ H=>tv σ H fun v H1=>td σ H1 fun x H2=>ty σ H2 fun y H3=>∃ a H4,x=.ref a/\DPut H3 a y v H4/\D.nx σ H4
section
variable {X:Cx}{o i e value:Expr}{pos pos' tpos:Pos}{td ty tv:TE}
theorem pe_dget (hu:X.A.units+1<cLine) (ho:PE X o td) (hi:PE X i ty) (hs:NoSl i):PE X (.Subscript o i pos) (tDGet td ty):=by
  intro pins s σ H Q I h
  refine subD_of PySem.F.slot_dict_getitem.lookup hs (thn (ho pins s σ H _ I h) fun u s1 ⟨x,H1,I1,rx,q1⟩=>thn (hi pins s1 σ H1 _ I1 q1) fun iv s2 ⟨y,H2,I2,ry,a,v,ex,g,q2⟩=>?_)
  subst ex
  obtain rfl:u=Value.ref a:=rx
  exact ⟨dict_typeIs I2 g,d_getItem hu I2 g ry fun w' s3 I3 rw'=>⟨v,H2,I3,rw',q2⟩⟩
theorem pc_din (hu:X.A.units+1<cLine) (hi:PE X i ty) (ho:PE X o td):PC X .In i o (tDIn ty td):=by
  intro pins s σ H Q I h
  refine thn (hi pins s σ H _ I h) fun iv s1 ⟨y,H1,I1,ry,q1⟩=>thn (ho pins s1 σ H1 _ I1 q1) fun u s2 ⟨x,H2,I2,rx,a,ov,ex,g,q2⟩=>?_
  subst ex
  obtain rfl:u=Value.ref a:=rx
  exact d_in hu I2 g ry fun s3 I3=>⟨.bl ov.isSome,H2,I3,rfl,q2⟩
theorem pc_dnotin (hu:X.A.units+1<cLine) (hi:PE X i ty) (ho:PE X o td):PC X .NotIn i o (tDNotIn ty td):=by
  intro pins s σ H Q I h
  refine thn (hi pins s σ H _ I h) fun iv s1 ⟨y,H1,I1,ry,q1⟩=>thn (ho pins s1 σ H1 _ I1 q1) fun u s2 ⟨x,H2,I2,rx,a,ov,ex,g,q2⟩=>?_
  subst ex
  obtain rfl:u=Value.ref a:=rx
  exact d_notIn hu I2 g ry fun s3 I3=>⟨.bl (!ov.isSome),H2,I3,rfl,q2⟩
theorem ps_dput (hu:X.A.units+1<cLine) (ho:PE X o td) (hi:PE X i ty) (hv:PE X value tv) (hs:swapsWith value (some (.Subscript o i pos')) pos.line X.env=pure false) :
    PS X (.Assign [.Subscript o i pos'] value pos) (sDPut td ty tv):=by
  intro pins s σ H D I h
  refine wpAny_Assign_Subscript (thn (hv pins s σ H _ I h) fun r s1 ⟨v,H1,I1,rv,q1⟩=>thn (ho pins s1 σ H1 _ I1 q1) fun u s2 ⟨x,H2,I2,rx,q2⟩=>thn (hi pins s2 σ H2 _ I2 q2) fun iv s3 ⟨y,H3,I3,ry,a,H4,ex,g,q3⟩=>?_) hs
  subst ex
  obtain rfl:u=Value.ref a:=rx
  exact d_setItem hu I3 g ry rv fun s4 I4=>⟨σ,H4,I4,q3⟩
end
theorem dk_empty {P:Program}{w:World}{H:Hp}(h:Heap) (hb:sysModules<h.objs.size):ObjOk P w H (h.push { cls:=.type "dict",data:=.dict #[] }) h.objs.size (.dK []) :=
  ⟨Nat.zero_le _,beq_eq_false_iff_ne.mpr (Ne.symm (Nat.ne_of_lt hb)),[],.nil,Heap.DictOf.new h⟩
def tDNewK:TE:=fun _ H Q=>∀ p,H p=none->Q (.ref p) (upd H p (.dK []))
section
variable {X:Cx}{pos:Pos}
theorem pe_dnewK:PE X (.Dict [] [] pos) tDNewK:=fun pins s σ H Q I h =>
  wpAny_Dict_empty ⟨.ref s.heap.objs.size,_,I.laid (a:=s.heap.objs.size) (o:=.dK []) (t':=s.toks) (fun _ _ q=>Heap.get?_push_of_some _ q) (Nat.le_refl _) (dk_empty s.heap I.big),rfl,h _ (I.hok.fresh (Nat.le_refl _))⟩
end
structure M1 (X:Cx) (o:Expr) (m:Str) (apos:Pos) (e:Expr) (cpos:Pos):Prop where
  base:attributeBase o m X.env (eval o X.env)=eval o X.env
  few:((backTo cpos (starEach [e] X.env)).all (fun x=>!x.1)&&(backToKw cpos (keywordEach [] X.env)).all (fun x=>x.1.isSome)
    && decide (([e]:List Expr).length+([]:List Keyword).length+(if ([]:List Keyword).isEmpty then 0 else 1)<30))=true
  line:(apos.endLine==cpos.line)=true
  trees:backTo cpos (starEach [e] X.env)=[(false,eval e X.env)]
structure M2 (X:Cx) (o:Expr) (m:Str) (apos:Pos) (e f:Expr) (cpos:Pos):Prop where
  base:attributeBase o m X.env (eval o X.env)=eval o X.env
  few:((backTo cpos (starEach [e,f] X.env)).all (fun x=>!x.1)&&(backToKw cpos (keywordEach [] X.env)).all (fun x=>x.1.isSome)
    && decide (([e,f]:List Expr).length+([]:List Keyword).length+(if ([]:List Keyword).isEmpty then 0 else 1)<30))=true
  line:(apos.endLine==cpos.line)=true
  trees:backTo cpos (starEach [e,f] X.env)=[(false,eval e X.env),(false,eval f X.env)]
def IsD (H:Hp) (a:Addr):Prop:=(∃ kvs,Rd H a (.dK kvs))\/∃ kvs,Rd H a (.dT kvs)
theorem isD_at {X:Cx}{pins:List (Addr×Obj)}{σ:St}{H:Hp}{s:Shared}{a:Addr}(I:Inv X pins σ H s) (d:IsD H a) :
    s.TypeIs (.ref a) "dict"/\(∀ b,Value.ref a=.ref b->∃ ob,s.heap.get? b=some ob/\ob.dict=none)/\(a==sysModules)=false:=by
  rcases d with ⟨kvs,e⟩ | ⟨kvs,e⟩
  · obtain ⟨_,hd,vs,_,dd⟩:=dk_rd I.hok e
    refine ⟨dd.typeIs,fun b q=>?_,hd⟩
    cases q
    obtain ⟨ob,_,_,h1,h2,_⟩:=dd
    exact ⟨ob,h1,h2.2.1⟩
  · obtain ⟨_,hd,xs,_,dd⟩:=dt_rd I.hok e
    refine ⟨dd.typeIs,fun b q=>?_,hd⟩
    cases q
    obtain ⟨ob,_,_,h1,h2,_⟩:=dd
    exact ⟨ob,h1,h2.2.1⟩
section
variable {X:Cx}{pins:List (Addr×Obj)}{σ:St}{H:Hp}{s:Shared}{a:Addr}{y d:V}{u r:Value}{o:Option V}{A:Around}{E:Value->Shared->Prop}
theorem d_get1 {Q:Value->Shared->Prop}(hu:A.units+1<cLine) (I:Inv X pins σ H s) (g:DGet H a y o) (ry:RelV y u) (h:∀ w' s',Inv X pins σ H s'->RelV (o.getD .non) w'->Q w' s') :
    wpAny (model X.prog X.w) A (call (.builtin "dict.get") [.ref a,u]) Q E s:=by
  rcases g with ⟨kvs,k,e,ey,l⟩ | ⟨kvs,k,b,e,ey,eb,l⟩
  · subst ey
    obtain ⟨z,hd,vs,rel,dd⟩:=dk_rd I.hok e
    refine call_meetsIn PySem.F.slot_dict_get dd.typeIs PySem.F.entry_dict_get (PySem.F.args_dict_get_2 _ _) (meets_dict_get (mixKind X.prog X.w) a (kV_is ry) hd) ⟨_,dd.mapOf,h _ _ (I.tok _) ?_⟩
    rw [l]
    exact (rel.val k).getD rfl
  · subst ey
    cases (show u=Value.ref b from ry)
    obtain ⟨z,hd,xs,rel,dd⟩:=dt_rd I.hok e
    refine call_meetsIn PySem.F.slot_dict_get dd.typeIs PySem.F.entry_dict_get (PySem.F.args_dict_get_2 _ _) (meetsH_dict_get (tupleKind (mixKind X.prog X.w)) a b hd) ⟨tupleKind_room_in1 hu,k,xs,key_of I.hok eb,dd,h _ _ (I.tok _) ?_⟩
    rw [l]
    exact (rel.val k).getD rfl
theorem d_get2 {Q:Value->Shared->Prop}(hu:A.units+1<cLine) (I:Inv X pins σ H s) (g:DGet H a y o) (ry:RelV y u) (rd:RelV d r) (h:∀ w' s',Inv X pins σ H s'->RelV (o.getD d) w'->Q w' s') :
    wpAny (model X.prog X.w) A (call (.builtin "dict.get") [.ref a,u,r]) Q E s:=by
  rcases g with ⟨kvs,k,e,ey,l⟩ | ⟨kvs,k,b,e,ey,eb,l⟩
  · subst ey
    obtain ⟨z,hd,vs,rel,dd⟩:=dk_rd I.hok e
    refine call_meetsIn PySem.F.slot_dict_get dd.typeIs PySem.F.entry_dict_get (PySem.F.args_dict_get_3 _ _ _) (meets_dict_get_default (mixKind X.prog X.w) a (kV_is ry) hd r) ⟨_,dd.mapOf,h _ _ (I.tok _) ?_⟩
    rw [l]
    exact (rel.val k).getD rd
  · subst ey
    cases (show u=Value.ref b from ry)
    obtain ⟨z,hd,xs,rel,dd⟩:=dt_rd I.hok e
    refine call_meetsIn PySem.F.slot_dict_get dd.typeIs PySem.F.entry_dict_get (PySem.F.args_dict_get_3 _ _ _) (meetsH_dict_get_default (tupleKind (mixKind X.prog X.w)) a b hd r) ⟨tupleKind_room_in1 hu,k,xs,key_of I.hok eb,dd,h _ _ (I.tok _) ?_⟩
    rw [l]
    exact (rel.val k).getD rd
end
def tDGet1 (td ty:TE):TE:=fun σ H Q=>td σ H fun x H1=>∃ a,x=.ref a/\IsD H1 a/\ty σ H1 fun y H2=>∃ o,DGet H2 a y o/\Q (o.getD .non) H2
def tDGet2 (td ty tx:TE):TE:=fun σ H Q=>td σ H fun x H1=>∃ a,x=.ref a/\IsD H1 a/\ty σ H1 fun y H2=>tx σ H2 fun z H3=>∃ o,DGet H3 a y o/\Q (o.getD z) H3
section
variable {X:Cx}{o e f:Expr}{apos cpos:Pos}{td ty tx:TE}
theorem pe_dget1 (hu:X.A.units+1<cLine) (ho:PE X o td) (he:PE X e ty) (m:M1 X o "get" apos e cpos):PE X (.Call (.Attribute o "get" apos) [e] [] cpos) (tDGet1 td ty):=by
  intro pins s σ H Q I h
  refine wpAny_Call_method m.base m.few m.line PySem.F.plainAttrs_dict PySem.F.slot_dict_get PySem.F.type_dict_get (thn (ho pins s σ H _ I h) fun u s1 ⟨x,H1,I1,rx,a,ex,d,q1⟩=>?_)
  subst ex
  obtain rfl:u=Value.ref a:=rx
  obtain ⟨t1,t2,_⟩:=isD_at I1 d
  refine ⟨t1,t2,?_⟩
  rw [m.trees]
  refine Calls.callWith_builtin rfl (Calls.evalArgs_plain (Calls.spliced_cons (thn (he pins s1 σ H1 _ I1 q1) fun iv s2 ⟨y,H2,I2,ry,ov,g,q2⟩=>Calls.spliced_nil ?_)))
  exact d_get1 hu I2 g ry fun w' s3 I3 rw'=>⟨_,H2,I3,rw',q2⟩
theorem pe_dget2 (hu:X.A.units+1<cLine) (ho:PE X o td) (he:PE X e ty) (hf:PE X f tx) (m:M2 X o "get" apos e f cpos):PE X (.Call (.Attribute o "get" apos) [e,f] [] cpos) (tDGet2 td ty tx):=by
  intro pins s σ H Q I h
  refine wpAny_Call_method m.base m.few m.line PySem.F.plainAttrs_dict PySem.F.slot_dict_get PySem.F.type_dict_get (thn (ho pins s σ H _ I h) fun u s1 ⟨x,H1,I1,rx,a,ex,d,q1⟩=>?_)
  subst ex
  obtain rfl:u=Value.ref a:=rx
  obtain ⟨t1,t2,_⟩:=isD_at I1 d
  refine ⟨t1,t2,?_⟩
  rw [m.trees]
  refine Calls.callWith_builtin rfl (Calls.evalArgs_plain (Calls.spliced_cons (thn (he pins s1 σ H1 _ I1 q1) fun iv s2 ⟨y,H2,I2,ry,q2⟩ =>
    Calls.spliced_cons (thn (hf pins s2 σ H2 _ I2 q2) fun fv s3 ⟨z,H3,I3,rz,ov,g,q3⟩=>Calls.spliced_nil ?_))))
  exact d_get2 hu I3 g ry rz fun w' s4 I4 rw'=>⟨_,H3,I4,rw',q3⟩
end
section
variable {X:Cx}{pins:List (Addr×Obj)}{σ:St}{H:Hp}{s:Shared}{a:Addr}{kvs:List (Key×V)}{A:Around}{E:Value->Shared->Prop}
end
section
variable {X:Cx}{pins:List (Addr×Obj)}{σ:St}{H:Hp}{s:Shared}{a:Addr}{y:V}{u:Value}{A:Around}{E:Value->Shared->Prop}
end
end L2
namespace Att
open PySem PySem.W PySem.Calls PyProof.Rows
theorem ints_of_wellAll {P:Params}{h:Heap}:∀ (ns:List Int) (vs:List Value),WellAll P h vs (ns.map WData.int)->IntsAre vs ns:=by
  intro ns
  induction ns with
  | nil =>
    intro vs w
    rw [List.map_nil] at w
    cases w
    exact .nil
  | cons n ns ih =>
    intro vs w
    rw [List.map_cons] at w
    cases w with
    | cons a b =>
      cases a
      exact .cons _ _ (ih _ b)
theorem script_of {l:OpenLaw}{n:Nat}(hn:l.most=some n) {P:Params}{h:Heap}{args:List WData}{vals:List Value}
    (hpre:l.row.toRowW.claim.pre args=true) (hwl:WellAll P h vals args) :
    ∃ a vs ns,vals=[Value.ref a]/\args=[WData.list (ns.map WData.int)]/\h.get? a=some { cls:=.type "list",data:=.seq vs.toArray }/\IntsAre vs ns/\ns.length<=n:=by
  have hsh:WShape.hasAll [] args [.list .int]=true:=(pre_splitW hpre).1
  have hc:l.pre.holds [] { args:=args }=true:=(pre_splitW hpre).2
  obtain ⟨d,r,rfl,h1,h2⟩:=hasAllW_cons hsh
  obtain rfl:=hasAllW_nil h2
  obtain ⟨xs,rfl,h3⟩:=hasW_list h1
  obtain ⟨ns,rfl⟩:=items_int h3
  have hlen:ns.length<=n:=by
    unfold OpenLaw.pre at hc
    have h4:(WTm.not (.lt (.lit (.int (n:Int))) (.len (.arg 0)))).holds [] { args:=[.list (ns.map .int)] }=true:=by
      have h4:=(holds_andW hc).1
      rw [hn] at h4
      exact h4
    have h5:=condW_of h4 (w_not (w_lt w_lit (w_len_list (w_arg rfl))))
    rw [zLM] at h5
    refine Nat.le_of_not_lt fun q=>?_
    have q':(n:Int)<((ns.length:Nat):Int):=by omega
    first
      | (rw [decide_eq_true q'] at h5;exact absurd h5 (by decide))
      | (simp at h5;omega)
  cases hwl with
  | cons w1 w2 =>
    cases w2
    cases w1 with
    | list ho hall=>exact ⟨_,_,ns,rfl,rfl,ho,ints_of_wellAll ns _ hall,hlen⟩
theorem post_true (l:OpenLaw) (args:List WData):l.row.toRowW.claim.post args (.bool true) args=true :=
  postW_of (r:=l.row.toRowW) (X:=(true==true))
    (show WShape.has [] (.bool true) .bool=true by first | rfl | decide | simp [WShape.has,WShape.arms,WShape.armsAll])
    (show (WTm.eq .res (.lit (.bool true))).value [] { args:=args,res:=some (.bool true),after:=args }=some (.bool (true==true)) from w_eq_bool (w_res rfl) w_lit) rfl
theorem attach_call {l:OpenLaw}{n:Nat}{q:Program}{loose:List Str}{XP:(Str->Option Value)->Heap->Prop}{YP:World->Heap->Prop}{d:DefRec}
    (hn:l.most=some n) (hdf:d.params.defaults=[])
    (call:∀ (w:World) (s₀ s₁:Shared) (mg mb:Str->Option Value) (fa:Addr) (o:Obj) (pm cd doc:Value) (a:Addr) (vs:List Value) (ns:List Int),
      Ground q loose [] XP w s₀ mg mb s₁.heap->YP w s₁.heap ->
      s₁.heap.get? fa=some o->o.data=.func (docDef d.name d.params d.body d.scope pm cd doc)->s₁.heap.CodeRec cd d.name->mg d.name=some (.ref fa) ->
      s₁.heap.get? a=some { cls:=.type "list",data:=.seq vs.toArray }->IntsAre vs ns->ns.length<=n->s₁.gens=#[] ->
      codeAny (model l.prog w) callerA (.call (.ref fa) ⟨[.ref a],[]⟩) (fun r s'=>r=.ok (.ret (.bool true))/\OldK s₁.heap s'.heap/\s'.os=s₁.os/\AllBare s'.gens) s₁) :
    WalkO q loose XP YP l.row.toRowW d [] (fun f vs=>PySem.call f vs):=by
  intro w s₀ s₁ mg mb G Y fa o pm cd doc dV kV ho hd hcd hD hmg hg args vals as hpre hlay hrd hwl hlo
  obtain rfl:dV=.none:=Dflts.none hD hdf
  obtain rfl:kV=.none:=Dflts.noKw hD
  obtain ⟨a,vs,ns,rfl,rfl,hobj,hints,hlen⟩:=script_of hn hpre hwl
  refine enter_call (codeAny_mono (call w s₀ s₁ mg mb fa o pm cd doc a vs ns G Y ho (fd_plain hd) hcd hmg hobj hints hlen hg) fun r s' hq=>?_)
  obtain ⟨rfl,h2,h3,h4⟩:=hq
  exact ⟨.inl ⟨.bool true,.bool true,[],rfl,fun _=>rfl,.bool true,post_true l _,fun _=>⟨List.Pairwise.nil,fun _ hm=>(nomatch hm)⟩⟩,h2,h3,h4⟩
section
variable {prog:Program}{w:World}{A:Around}{E:Value->Shared->Prop}{s:Shared}{K:Frag}
end
end Att
namespace L2
open PySem PySem.Spec PyProof.Rows
theorem vals_ints:∀ {vs:List Value}{ns:List Int},IntsAre vs ns->Vals (ns.map V.int) vs
  | _,_,.nil=>.nil
  | _,_,.cons n t h=>.cons ⟨t,rfl⟩ (vals_ints h)
def Only (H:Hp):Prop:=∀ b,H b=none\/∃ o xs,H b=some (.frz o (.lst xs))
theorem law_call {P:Program}{w:World}{K:PySem.W.Frag}{mg mb:Str->Option Value}{CX:CXT}{k:Nat}{fa a:Addr}{fd:FuncData}{x:Str}{sp:Sp}{s₁:Shared}{vs:List Value}{ns:List Int}
    (KX:K.In s₁.heap) (hns:s₁.heap.Ns mainGlobals mg) (hb:s₁.heap.Ns builtinsNs mb) (hbb:∀ x:Str,x≠"__name__"->mb x=bootBuiltins x) (hlim:s₁.heap.NoLimit) (hg:s₁.gens=#[])
    (ha:s₁.heap.get? a=some { cls:=.type "list",data:=.seq vs.toArray }) (hi:IntsAre vs ns) (hl:ns.length<=sizeLine) (hr:Room k callerA)
    (F:∀ base:Heap,K.In base->base.Ns mainGlobals mg->FnOk P w K mg base CX k fa fd [x] sp) (hbind:∀ (s:Shared) (u:Value),BindsTo s fd ⟨[u],[]⟩ [(x,u)])
    (hsp:∀ H:Hp,Only H->SqL K H a (ns.map V.int)->sp [.ref a] H (fun v _=>v=.bl true) fun _ _ _=>False)
    (hCX:∀ H e s',CX [] H s₁ (fun _ _ _=>False) e s'->False) :
    codeAny (model P w) callerA (.call (.ref fa) ⟨[.ref a],[]⟩) (fun r s'=>r=.ok (.ret (.bool true))/\OldK s₁.heap s'.heap/\s'.os=s₁.os/\AllBare s'.gens) s₁:=by
  have rv:=vals_ints hi
  have lenV:=hi.length
  have core : ∀ H:Hp,Only H->SqL K H a (ns.map V.int)->HOk P w H s₁.heap->(∀ b,H b≠none->b=a)->(H a≠none->K.lookup a=none) ->
      codeAny (model P w) callerA (.call (.ref fa) ⟨[.ref a],[]⟩) (fun r s'=>r=.ok (.ret (.bool true))/\OldK s₁.heap s'.heap/\s'.os=s₁.os/\AllBare s'.gens) s₁:=by
    intro H hO hS hok hA hK
    have base_of:∀ {b:Addr}{o:Obj},s₁.heap.get? b=some o->H b=none->(hidT s₁.heap H).get? b=some o:=fun e n=>hidT_get e n
    have noA:∀ {b:Addr}{o:Obj}{es:Array DictEntry}{ep:Nat},s₁.heap.get? b=some o->o.data=.dict es ep->H b=none:=fun {b o es ep} e d=>by
      cases q:H b with
      | none=>rfl
      | some u =>
        have e':b=a:=hA b (by rw [q];simp)
        subst e'
        rw [ha] at e;cases e
        have d':Data.seq vs.toArray _=Data.dict es ep:=d
        cases d'
    have nsK:∀ {b:Addr}{m:Str->Option Value},s₁.heap.Ns b m->(hidT s₁.heap H).Ns b m:=fun {b m} ⟨o,es,ep,e,d,r⟩=>⟨o,es,ep,base_of e (noA e d),d,r⟩
    have hKb:K.In (hidT s₁.heap H):=fun b o e=>base_of (KX b o e) (by
      cases q:H b with
      | none=>rfl
      | some u =>
        have e':b=a:=hA b (by rw [q];simp)
        subst e'
        rw [hK (by rw [q];simp)] at e;cases e)
    have hM:Mod K mg (hidT s₁.heap H):=⟨hKb,nsK hns,⟨mb,nsK hb,hbb⟩,let ⟨mc,h1,h2⟩:=hlim;⟨mc,nsK h1,h2⟩⟩
    have e0:Env0 P w K mg (hidT s₁.heap H) callerA [] s₁ H:=⟨rfl,hM,fun b o e=>of_hidT e,Nat.le_of_eq (hidT_size _ _),trivial,fun b hb=>absurd (show b∈([]:List Addr) from hb) (by simp),hok,.of_eq hg⟩
    refine codeAny_mono ((F _ hKb (nsK hns)).run callerA [] s₁ H ⟨[.ref a],[]⟩ [.ref a] [.ref a] _ _ hr e0 (hbind s₁ (.ref a)) (.cons rfl .nil) (hsp H hO hS)) fun r s' h=>?_
    cases r with
    | error e=>exact (hCX H e s' h).elim
    | ok fl =>
      cases fl with
      | next=>exact False.elim h
      | brk=>exact False.elim h
      | cont=>exact False.elim h
      | ret u =>
        obtain ⟨v,H',os,bare,un,hok',r',q⟩:=h
        have q':v=.bl true:=q
        subst q'
        obtain rfl:u=Value.bool true:=r'
        refine ⟨rfl,OldK.of_keep fun b o e=>?_,os,bare⟩
        cases q:H b with
        | none=>exact un.keep b o e q (by intro z;exact absurd (show b∈([]:List Addr) from z) (by simp)) (by simp)
        | some u =>
          rcases hO b with z | ⟨ob,xs,z⟩
          · rw [q] at z;cases z
          · have z2:=un.frzs b ob _ z
            obtain ⟨e1,_⟩:=hok b _ z
            obtain ⟨e2,_⟩:=hok' b _ z2
            rw [e] at e1;cases e1
            exact e2
  cases hk:K.lookup a with
  | some o =>
    have e:=KX a o hk
    rw [ha] at e
    cases e
    refine core (fun _=>none) (fun _=>.inl rfl) (.inr ⟨_,vs.toArray,_,hk,rfl,rfl,rfl,by rw [List.size_toArray,lenV];exact hl,by simpa using rv⟩) (fun b u z=>by have z':(none:Option HO)=some u:=z;cases z') (fun b z=>absurd rfl z) fun z=>absurd rfl z
  | none =>
    refine core (fun b=>if b=a then some (.frz { cls:=.type "list",data:=.seq vs.toArray } (.lst (ns.map V.int))) else none) (fun b=>?_) (.inl (.inr ⟨{ cls:=.type "list",data:=.seq vs.toArray },if_pos rfl⟩)) (fun b u z=>?_) (fun b z=>?_) fun _=>hk
    · by_cases hb:b=a
      · exact .inr ⟨_,_,if_pos hb⟩
      · exact .inl (if_neg hb)
    · by_cases hb:b=a
      · have z':=(if_pos hb).symm.trans z
        cases z'
        subst hb
        exact ⟨ha,by rw [zLM];exact hl,vs,_,rv,ha⟩
      · have z':=(if_neg hb).symm.trans z
        cases z'
    · by_cases hb:b=a
      · exact hb
      · exact absurd (if_neg hb) z
end L2
namespace L2
open PySem PySem.Spec PyProof.Rows
theorem walk_of {l:PySem.W.OpenLaw}{n k:Nat}{q:Program}{loose:List Str}{XP:(Str->Option Value)->Heap->Prop}{YP:World->Heap->Prop}{d:DefRec}{K:Params->PySem.W.Frag}{CX:World->CXT}{sp:World->Sp}{x:Str}
    (hn:l.most=some n) (hn2:n<=sizeLine) (hdf:d.params.defaults=[]) (hr:Room k callerA)
    (hY:∀ (w:World) (h:Heap),YP w h->(K w.params).In h)
    (F:∀ (w:World) (mg:Str->Option Value) (fa:Addr) (h:Heap),(K w.params).In h->h.Ns mainGlobals mg->mg d.name=some (.ref fa) ->
      ∃ fd:FuncData,(∀ (s:Shared) (u:Value),BindsTo s fd ⟨[u],[]⟩ [(x,u)]) /\
        ∀ base:Heap,(K w.params).In base->base.Ns mainGlobals mg->FnOk l.prog w (K w.params) mg base (CX w) k fa fd [x] (sp w))
    (hsp:∀ (w:World) (H:Hp) (a:Addr) (ns:List Int),ns.length<=n->Only H->SqL (K w.params) H a (ns.map V.int)->sp w [.ref a] H (fun v _=>v=.bl true) fun _ _ _=>False)
    (hCX:∀ (w:World) (H:Hp) (s:Shared) (e:Value) (s':Shared),CX w [] H s (fun _ _ _=>False) e s'->False) :
    PySem.W.WalkO q loose XP YP l.row.toRowW d [] (fun f vs=>PySem.call f vs):=by
  refine Att.attach_call hn hdf fun w s₀ s₁ mg mb fa o pm cd doc a vs ns G Y ho hd hcd hmg hobj hints hlen hg=>?_
  have KX:=hY w _ Y
  obtain ⟨fd,hb,hF⟩:=F w mg fa _ KX G.T.g hmg
  exact law_call KX G.T.g G.T.b G.T.builtins G.T.nolimit hg hobj hints (Nat.le_trans hlen hn2) hr hF hb (fun H hO hS=>hsp w H a ns hlen hO hS) fun H e s'=>hCX w H s₁ e s'
end L2
namespace L2
open PySem PySem.Spec PyProof.Rows
def inClass (s:Stmt) (j:Nat):Stmt:=match s with
  | .ClassDef _ _ _ body _ _ _ _ _ _ _=>body.getD j (.Pass ⟨0,0,0,0⟩)
  | _=>.Pass ⟨0,0,0,0⟩
def defArgs (s:Stmt):Arguments:=match s with
  | .FunctionDef _ a _ _ _ _ _ _ _ _=>a
  | _=>{ posonlyargs:=[],args:=[],vararg:=none,kwonlyargs:=[],kw_defaults:=[],kwarg:=none,defaults:=[] }
def defBody (s:Stmt):List Stmt:=match s with
  | .FunctionDef _ _ b _ _ _ _ _ _ _=>b
  | _=>[]
def defScope (s:Stmt):Scope:=match s with
  | .FunctionDef _ _ _ _ _ _ sc _ _ _=>sc
  | _=>{ kind:=.function,names:=[],isGenerator:=false,isCoroutine:=false }
abbrev CX0:CXT:=fun _ _ _ _ _ _=>False
abbrev E0:XK:=fun _ _ _=>False
theorem pass0 {X:Cx}:Passes CX0 X E0:=fun _ _ _ _ _ _ _ h=>h.elim
structure Fun (K:PySem.W.Frag) (x qual:Str) (st:Stmt) (f:Addr) (fd:FuncData):Prop where
  ex:∃ (oc:Value) (od:Option Addr) (kV doc pm:Value) (an:Option Addr) (cdv ct:Value) (osl:Array (Option Value)),
    fd=PySem.W.fnOf x qual (defArgs st) (defBody st) (defScope st) .none kV doc pm an cdv ct/\K.lookup f=some ⟨oc,od,.func fd,osl⟩/\PySem.W.codeIn K cdv qual=true
  kp:PySem.W.keepIn K (.ref f)=true
section
variable {P:Program}{w:World}{K:PySem.W.Frag}{mg:Str->Option Value}{base:Heap}
theorem Fun.ok {x qual:Str}{st:Stmt}{f:Addr}{fd:FuncData}{N ps:List Str}{k:Nat}{sp:Sp}(F:Fun K x qual st f fd) (S:FnScope N ps (defScope st)) (len:∀ vs H Q E,sp vs H Q E->vs.length=ps.length)
    (hbody:∀ (cdv:Value) (A:Around) (outer:List Env) (s:Shared) (H:Hp) (vs:List V) (Q:VK) (E:XK),Room k (A.deeper (envOfC qual (defScope st) s.heap.objs.size f cdv))->sp vs H Q E ->
      ∃ t,PSs (cxOf CX0 P w K mg base N qual (defScope st) f cdv A outer s H E).nox (defBody st) t/\t { nx:=fun _ H'=>Q .non H',rt:=Q } (start N vs) H):FnOk P w K mg base CX0 (k+1) f fd ps sp:=by
  obtain ⟨oc,od,kV,doc,pm,an,cdv,ct,osl,rfl,lk,hcd⟩:=F.ex
  refine fn_of lk hcd S len fun A outer s H vs Q E hr hsp=>?_
  obtain ⟨t,h,q⟩:=hbody cdv A outer s H vs Q E hr hsp
  exact ⟨t,h.nox,q⟩
theorem Fun.binds {x qual:Str}{st:Stmt}{f:Addr}{fd:FuncData}{ps:List Str}(F:Fun K x qual st f fd)
    (h:∀ (kV doc pm:Value) (an:Option Addr) (cdv ct:Value) (us:List Value),us.length=ps.length->bindArgs (PySem.W.fnOf x qual (defArgs st) (defBody st) (defScope st) .none kV doc pm an cdv ct) ⟨us,[]⟩=pure (ps.zip us)):Binds K fd ps []:=by
  obtain ⟨oc,od,kV,doc,pm,an,cdv,ct,osl,rfl,lk,hcd⟩:=F.ex
  exact .all (h kV doc pm an cdv ct)
theorem fun_mk {x qual:Str}{st:Stmt}{f:Addr}{oc:Value}{od an:Option Addr}{osl:Array (Option Value)}{kV doc pm cdv ct:Value}(l:K.lookup f=some ⟨oc,od,.func (PySem.W.fnOf x qual (defArgs st) (defBody st) (defScope st) .none kV doc pm an cdv ct),osl⟩)
    (c:PySem.W.codeIn K cdv qual=true) (k:PySem.W.keepIn K (.ref f)=true):Fun K x qual st f (PySem.W.fnOf x qual (defArgs st) (defBody st) (defScope st) .none kV doc pm an cdv ct):=⟨⟨oc,od,kV,doc,pm,an,cdv,ct,osl,rfl,l,c⟩,k⟩
end
section
variable {X:Cx}
theorem pv (i:Nat) {x:Str}{pos:Pos}(hN:X.N[i]?=some x:=by rfl) (hv:Vis X.env.scope x:=by first | exact Or.inl rfl | exact Or.inr (Or.inl rfl) | exact Or.inr (Or.inr rfl)) (hd:(x==("__debug__":Str))=false:=by decide)
    (hcd:(x==("__classdict__":Str))=false:=by decide):PE X (.Name x pos) (tVar i):=pe_var hN hv hd hcd
end
theorem iteF {A B:Prop}(h:B):if false=true then A else B:=by
  rw [if_neg Bool.false_ne_true]
  exact h
theorem iteT {A B:Prop}(h:A):if true=true then A else B:=by
  rw [if_pos rfl]
  exact h
theorem ite2 {c A B:Prop} [Decidable c] (h1:c->A) (h2:¬ c->B):if c then A else B:=by
  by_cases h:c
  · rw [if_pos h]
    exact h1 h
  · rw [if_neg h]
    exact h2 h
def Same (H H':Hp):Prop:=∀ b o,H b=some o->H' b=some o
theorem Same.refl (H:Hp):Same H H:=fun _ _ h=>h
theorem Same.trans {H H1 H2:Hp}(a:Same H H1) (b:Same H1 H2):Same H H2:=fun c o h=>b c o (a c o h)
theorem Same.free {H H':Hp}(e:Same H H') {l:Addr}(h:H' l=Option.none):H l=Option.none:=by
  cases q:H l with
  | none=>rfl
  | some o =>
    rw [e l o q] at h
    cases h
theorem Same.seq {K:PySem.W.Frag}{H H':Hp}{a:Addr}{xs:List V}(e:Same H H') (h:SqL K H a xs):SqL K H' a xs:=by
  rcases h with (h | ⟨o,h⟩) | h
  · exact .inl (.inl (e _ _ h))
  · exact .inl (.inr ⟨o,e _ _ h⟩)
  · exact .inr h
section
variable {X:Cx}
theorem call_lenD:CallR X (.builtin "len") (fun xs H Q=>∃ a kvs,xs=[V.ref a]/\H a=some (.dK kvs)/\Q (.int kvs.length) H):=by
  intro pins s σ H xs us Q I r h
  obtain ⟨a,kvs,rfl,ha,q⟩:=h
  obtain ⟨u,rfl,ru⟩:=vals1 r
  cases ru
  exact d_len I (.inl ha) fun t s' I'=>⟨.int kvs.length,H,I',⟨t,rfl⟩,q⟩
end
section
variable {κ:Type} [DecidableEq κ]
end
end L2
namespace BF
open PySem
def Wd (w:Str):Prop:=1<=w.cps.toList.length/\w.cps.toList.length<=40/\∀ c∈w.cps.toList,97<=c/\c<=122
inductive Tm where
  | num (n:Int)
  | name (w:Str)
  | blank (w:Str)
  | thing (w:Str) (ps:List Tm)
mutual
def Tm.nodes:Tm->Nat
  | .num _=>1
  | .name _=>1
  | .blank _=>1
  | .thing _ ps=>1+nodesL ps
def nodesL:List Tm->Nat
  | []=>0
  | p::r=>p.nodes+nodesL r
end
mutual
def Tm.Ok:Tm->Prop
  | .num n => -(10 ^ 61)<=n/\n<=10 ^ 61
  | .name w=>Wd w
  | .blank w=>Wd w
  | .thing w ps=>Wd w/\ps≠[]/\OkL ps
def OkL:List Tm->Prop
  | []=>True
  | p::r=>p.Ok/\OkL r
end
theorem Tm.nodes_pos (t:Tm):1<=t.nodes:=by
  cases t <;> simp only [Tm.nodes] <;> omega
theorem nodesL_append (a b:List Tm):nodesL (a++b)=nodesL a+nodesL b:=by
  induction a with
  | nil=>simp [nodesL]
  | cons x r ih=>simp only [List.cons_append,nodesL,ih];omega
theorem okL_append (a b:List Tm):OkL (a++b)↔OkL a/\OkL b:=by
  induction a with
  | nil=>simp [OkL]
  | cons x r ih=>simp only [List.cons_append,OkL,ih,and_assoc]
theorem okL_iff (a:List Tm):OkL a↔∀ t∈a,t.Ok:=by
  induction a with
  | nil=>simp [OkL]
  | cons x r ih=>simp [OkL,ih]
theorem len_le_nodes (a:List Tm):a.length<=nodesL a:=by
  induction a with
  | nil=>simp [nodesL]
  | cons x r ih=>have:=x.nodes_pos;simp only [zLC,nodesL];omega
theorem nodesL_reverse (a:List Tm):nodesL a.reverse=nodesL a:=by
  induction a with
  | nil=>rfl
  | cons x r ih=>rw [List.reverse_cons,nodesL_append,ih];simp only [nodesL];omega
theorem Tm.ind {P:Tm->Prop}(h1:∀ n,P (.num n)) (h2:∀ w,P (.name w)) (h3:∀ w,P (.blank w)) (h4:∀ w ps,(∀ p∈ps,P p)->P (.thing w ps)):∀ t,P t
  | .num n=>h1 n
  | .name w=>h2 w
  | .blank w=>h3 w
  | .thing w ps=>h4 w ps fun p hp=>Tm.ind h1 h2 h3 h4 p
termination_by t=>sizeOf t
decreasing_by
  have:=List.sizeOf_lt_of_mem hp
  simp only [Tm.thing.sizeOf_spec];omega
inductive Dt where
  | int (i:Int)
  | str (x:Str)
  | tup (l:List Dt)
  | lst (l:List Dt)
mutual
def Dt.dep:Dt->Nat
  | .int _=>0
  | .str _=>0
  | .tup l=>1+depL l
  | .lst l=>1+depL l
def depL:List Dt->Nat
  | []=>0
  | d::r=>max d.dep (depL r)
end
theorem dep_mem {d:Dt}:∀ {l:List Dt},d∈l->d.dep<=depL l
  | x::r,h=>by
    rcases List.mem_cons.mp h with rfl | h
    · simp only [depL];omega
    · have:=dep_mem h;simp only [depL];omega
mutual
def Tm.dt:Tm->Dt
  | .num n=>.tup [.str "number",.int n]
  | .name w=>.tup [.str "name",.str w]
  | .blank w=>.tup [.str "blank",.str w]
  | .thing w ps=>.tup [.str "thing",.str w,.tup (dtL ps)]
def dtL:List Tm->List Dt
  | []=>[]
  | p::r=>p.dt::dtL r
end
theorem dtL_map (ps:List Tm):dtL ps=ps.map Tm.dt:=by
  induction ps with
  | nil=>rfl
  | cons p r ih=>simp only [dtL,List.map_cons,ih]
theorem nm_ne1:(("number":Str)="name")=False:=by simp only [eq_iff_iff,iff_false];decide +kernel
theorem nm_ne2:(("number":Str)="blank")=False:=by simp only [eq_iff_iff,iff_false];decide +kernel
theorem nm_ne3:(("number":Str)="thing")=False:=by simp only [eq_iff_iff,iff_false];decide +kernel
theorem nm_ne4:(("name":Str)="blank")=False:=by simp only [eq_iff_iff,iff_false];decide +kernel
theorem nm_ne5:(("name":Str)="thing")=False:=by simp only [eq_iff_iff,iff_false];decide +kernel
theorem nm_ne6:(("blank":Str)="thing")=False:=by simp only [eq_iff_iff,iff_false];decide +kernel
theorem nm_ne1':(("name":Str)="number")=False:=by simp only [eq_iff_iff,iff_false];decide +kernel
theorem nm_ne2':(("blank":Str)="number")=False:=by simp only [eq_iff_iff,iff_false];decide +kernel
theorem nm_ne3':(("thing":Str)="number")=False:=by simp only [eq_iff_iff,iff_false];decide +kernel
theorem nm_ne4':(("blank":Str)="name")=False:=by simp only [eq_iff_iff,iff_false];decide +kernel
theorem nm_ne5':(("thing":Str)="name")=False:=by simp only [eq_iff_iff,iff_false];decide +kernel
theorem nm_ne6':(("thing":Str)="blank")=False:=by simp only [eq_iff_iff,iff_false];decide +kernel
theorem dtL_inj_of:∀ {ps qs:List Tm},(∀ p∈ps,∀ q:Tm,p.dt=q.dt->p=q)->dtL ps=dtL qs->ps=qs
  | [],[],_,_=>rfl
  | [],_::_,_,e=>by simp [dtL] at e
  | _::_,[],_,e=>by simp [dtL] at e
  | p::ps,q::qs,h,e=>by
    simp only [dtL,List.cons.injEq] at e
    rw [h p (by simp) q e.1,dtL_inj_of (fun x hx y=>h x (by simp [hx]) y) e.2]
theorem Tm.dt_inj:∀ (t u:Tm),t.dt=u.dt->t=u:=by
  intro t
  induction t using Tm.ind with
  | h1 n=>intro u e;cases u <;> simp [Tm.dt,nm_ne1,nm_ne2] at e |-;exact e
  | h2 w=>intro u e;cases u <;> simp [Tm.dt,nm_ne1',nm_ne4] at e |-;exact e
  | h3 w=>intro u e;cases u <;> simp [Tm.dt,nm_ne2',nm_ne4'] at e |-;exact e
  | h4 w ps ih =>
    intro u e
    cases u with
    | num=>simp [Tm.dt] at e
    | name=>simp [Tm.dt] at e
    | blank=>simp [Tm.dt] at e
    | thing w' qs =>
      simp only [Tm.dt,Dt.tup.injEq,List.cons.injEq,Dt.str.injEq,true_and,and_true] at e
      rw [e.1,dtL_inj_of ih e.2]
theorem depL_le {n:Nat}:∀ {l:List Dt},(∀ d∈l,d.dep<=n)->depL l<=n
  | [],_=>by simp [depL]
  | x::r,h=>by
    have h1:=h x (by simp)
    have h2:=depL_le (l:=r) fun d hd=>h d (by simp [hd])
    simp only [depL];omega
theorem nodes_mem {t:Tm}:∀ {l:List Tm},t∈l->t.nodes<=nodesL l
  | x::r,h=>by
    rcases List.mem_cons.mp h with rfl | h
    · simp only [nodesL];omega
    · have:=nodes_mem h;simp only [nodesL];omega
theorem Tm.dep_le (t:Tm):t.dt.dep<=2 * t.nodes:=by
  induction t using Tm.ind with
  | h1 n=>simp [Tm.dt,Tm.nodes,Dt.dep,depL]
  | h2 n=>simp [Tm.dt,Tm.nodes,Dt.dep,depL]
  | h3 n=>simp [Tm.dt,Tm.nodes,Dt.dep,depL]
  | h4 w ps ih =>
    have:depL (dtL ps)<=2 * nodesL ps:=by
      rw [dtL_map]
      refine depL_le fun d hd=>?_
      obtain ⟨p,hp,rfl⟩:=List.mem_map.mp hd
      have a:=ih p hp
      have b:=nodes_mem hp
      omega
    simp only [Tm.dt,Tm.nodes,Dt.dep,depL]
    omega
end BF
namespace BF
open PySem
def numS (n:Int):List Nat:=(Str.ofString (toString n)).cps.toList
mutual
def Tm.line:Tm->List Nat
  | .num n=>numS n
  | .name w=>w.cps.toList
  | .blank w=>63::w.cps.toList
  | .thing w ps=>w.cps.toList++40::(lineL ps++[41])
def lineL:List Tm->List Nat
  | []=>[]
  | p::r=>p.line++tailL r
def tailL:List Tm->List Nat
  | []=>[]
  | p::r=>44::(p.line++tailL r)
end
inductive Pc where
  | sg (x:Str)
  | tm (u:Tm)
def Pc.out:Pc->List Nat
  | .sg x=>x.cps.toList
  | .tm u=>u.line
def Pc.wt:Pc->Nat
  | .sg _=>1
  | .tm u=>3 * u.nodes - 1
def outs (l:List Pc):List Nat:=l.reverse.flatMap Pc.out
def wts (l:List Pc):Nat:=(l.map Pc.wt).sum
theorem outs_snoc (l:List Pc) (p:Pc):outs (l++[p])=p.out++outs l:=by
  simp [outs]
theorem wts_snoc (l:List Pc) (p:Pc):wts (l++[p])=wts l+p.wt:=by
  simp [wts]
theorem wts_append (l m:List Pc):wts (l++m)=wts l+wts m:=by
  simp [wts]
theorem outs_append (l m:List Pc):outs (l++m)=outs m++outs l:=by
  simp [outs]
theorem len_le_wts:∀ l:List Pc,l.length<=wts l
  | []=>by simp [wts]
  | p :: r=>by
    have:=len_le_wts r
    have h:1<=p.wt:=by
      cases p with
      | sg x=>simp [Pc.wt]
      | tm u=>have:=u.nodes_pos;simp only [Pc.wt];omega
    simp only [wts,List.map_cons,List.sum_cons,zLC] at *
    omega
def commas (r:List Tm):List Pc:=r.reverse.flatMap fun p=>[Pc.tm p,Pc.sg ","]
def pushed (p:Tm) (r:List Tm):List Pc:=[Pc.sg ")"]++commas r++[Pc.tm p]
theorem comma_cps:(Str.ofString ",").cps.toList=[44]:=by decide +kernel
theorem close_cps:(Str.ofString ")").cps.toList=[41]:=by decide +kernel
theorem open_cps:(Str.ofString "(").cps.toList=[40]:=by decide +kernel
theorem quest_cps:(Str.ofString "?").cps.toList=[63]:=by decide +kernel
theorem outs_commas (r:List Tm):outs (commas r)=tailL r:=by
  induction r with
  | nil=>rfl
  | cons p r ih =>
    have e:commas (p::r)=commas r++[Pc.tm p]++[Pc.sg ","]:=by simp [commas]
    rw [e,outs_snoc,outs_snoc,ih]
    simp only [Pc.out,comma_cps,tailL,List.cons_append,List.nil_append]
theorem outs_pushed (p:Tm) (r:List Tm):outs (pushed p r)=lineL (p::r)++[41]:=by
  unfold pushed
  rw [outs_append,outs_append,outs_commas]
  simp [outs,Pc.out,close_cps,lineL]
theorem wts_commas (r:List Tm):wts (commas r)=3 * nodesL r:=by
  induction r with
  | nil=>rfl
  | cons p r ih =>
    have e:commas (p::r)=commas r++[Pc.tm p]++[Pc.sg ","]:=by simp [commas]
    have:=p.nodes_pos
    rw [e,wts_snoc,wts_snoc,ih]
    simp only [Pc.wt,nodesL];omega
theorem wts_pushed (p:Tm) (r:List Tm):wts (pushed p r)=3 * nodesL (p::r):=by
  unfold pushed
  rw [wts_snoc,wts_append,wts_commas]
  have:=p.nodes_pos
  simp [wts,Pc.wt,nodesL];omega
def Stop (k:List Nat):Prop:=k=[]\/∃ r,k=44::r\/k=41::r
theorem takeWhile_stop {p:Nat->Bool}{a k:List Nat}(ha:∀ c∈a,p c=true) (hk:k=[]\/∃ c r,k=c::r/\p c=false):(a++k).takeWhile p=a:=by
  induction a with
  | nil =>
    rcases hk with rfl | ⟨c,r,rfl,h⟩
    · rfl
    · simp [h]
  | cons x r ih =>
    have:=ha x (by simp)
    rw [List.cons_append,List.takeWhile_cons,this]
    simp only [if_true]
    rw [ih fun c hc=>ha c (by simp [hc])]
end BF
namespace BF
open PySem PySem.Spec PyProof.Rows L2
mutual
def DatAt (H:Hp):V->Dt->Prop
  | v,.int i=>v=.int i
  | v,.str x=>v=.str x
  | v,.tup l=>∃ a vs,v=.ref a/\H a=some (.tup vs)/\DatsAt H vs l
  | v,.lst l=>∃ a vs,v=.ref a/\H a=some (.lst vs)/\DatsAt H vs l
def DatsAt (H:Hp):List V->List Dt->Prop
  | vs,[]=>vs=[]
  | vs,d::r=>∃ v us,vs=v::us/\DatAt H v d/\DatsAt H us r
end
theorem Dt.ind {P:Dt->Prop}(h1:∀ n,P (.int n)) (h2:∀ w,P (.str w)) (h3:∀ l,(∀ p∈l,P p)->P (.tup l)) (h4:∀ l,(∀ p∈l,P p)->P (.lst l)):∀ t,P t
  | .int n=>h1 n
  | .str w=>h2 w
  | .tup l=>h3 l fun p hp=>Dt.ind h1 h2 h3 h4 p
  | .lst l=>h4 l fun p hp=>Dt.ind h1 h2 h3 h4 p
termination_by t=>sizeOf t
decreasing_by
  · have:=List.sizeOf_lt_of_mem hp
    simp only [Dt.tup.sizeOf_spec];omega
  · have:=List.sizeOf_lt_of_mem hp
    simp only [Dt.lst.sizeOf_spec];omega
theorem DatsAt.length {H:Hp}:∀ {vs:List V}{l:List Dt},DatsAt H vs l->vs.length=l.length
  | vs,[],h=>by simp only [DatsAt] at h;subst h;rfl
  | vs,d::r,h=>by
    simp only [DatsAt] at h
    obtain ⟨v,us,rfl,_,h2⟩:=h
    simp only [zLC,h2.length]
theorem DatsAt.get {H:Hp}:∀ {vs:List V}{l:List Dt},DatsAt H vs l->∀ (i:Nat) (h1:i<vs.length) (h2:i<l.length),DatAt H vs[i] l[i]
  | vs,[],h,i,h1,h2=>absurd h2 (Nat.not_lt_zero _)
  | vs,d::r,h,i,h1,h2=>by
    simp only [DatsAt] at h
    obtain ⟨v,us,rfl,h3,h4⟩:=h
    cases i with
    | zero=>exact h3
    | succ i=>exact h4.get i _ _
theorem DatsAt.of_get {H:Hp}:∀ {vs:List V}{l:List Dt},vs.length=l.length->(∀ (i:Nat) (h1:i<vs.length) (h2:i<l.length),DatAt H vs[i] l[i])->DatsAt H vs l
  | [],[],_,_=>by simp only [DatsAt]
  | v::us,d::r,hl,h=>by
    simp only [DatsAt]
    refine ⟨v,us,rfl,h 0 (by simp) (by simp),DatsAt.of_get (by simpa using hl) fun i h1 h2=>h (i+1) (by simpa using h1) (by simpa using h2)⟩
  | [],_::_,hl,_=>by simp at hl
  | _::_,[],hl,_=>by simp at hl
theorem DatsAt.append {H:Hp}:∀ {vs us:List V}{l m:List Dt},DatsAt H vs l->DatsAt H us m->DatsAt H (vs++us) (l++m)
  | vs,us,[],m,h,h'=>by simp only [DatsAt] at h;subst h;exact h'
  | vs,us,d::r,m,h,h'=>by
    simp only [DatsAt] at h
    obtain ⟨v,ws,rfl,h1,h2⟩:=h
    simp only [List.cons_append,DatsAt]
    exact ⟨v,ws++us,rfl,h1,h2.append h'⟩
def TSame (H H':Hp):Prop:=∀ b xs,H b=some (.tup xs)->H' b=some (.tup xs)
theorem TSame.refl (H:Hp):TSame H H:=fun _ _ h=>h
theorem TSame.trans {H H1 H2:Hp}(a:TSame H H1) (b:TSame H1 H2):TSame H H2:=fun c o h=>b c o (a c o h)
theorem TSame.of {H H':Hp}(e:Same H H'):TSame H H':=fun b xs h=>e b _ h
theorem same_new {H:Hp}{p:Addr}(h:H p=none) (o:HO):Same H (upd H p o):=fun b u q=>by rw [upd_ne (ne_of_none q h)];exact q
theorem TSame.lst {H:Hp}{a:Addr}{xs:List V}{o:HO}(h:H a=some (.lst xs)):TSame H (upd H a o):=fun b ys q=>by
  rw [upd_ne (ne_of q h (by intro z;cases z))];exact q
theorem TSame.new {H:Hp}{a:Addr}{o:HO}(h:H a=none):TSame H (upd H a o):=fun b ys q=>by
  rw [upd_ne (ne_of_none q h)];exact q
mutual
def Dt.noL:Dt->Prop
  | .int _=>True
  | .str _=>True
  | .tup l=>noLs l
  | .lst _=>False
def noLs:List Dt->Prop
  | []=>True
  | d::r=>d.noL/\noLs r
end
theorem noLs_iff (l:List Dt):noLs l↔∀ d∈l,d.noL:=by
  induction l with
  | nil=>simp [noLs]
  | cons d r ih=>simp [noLs,ih]
theorem Tm.noL (t:Tm):t.dt.noL:=by
  induction t using Tm.ind with
  | h1 n=>simp [Tm.dt,Dt.noL,noLs]
  | h2 n=>simp [Tm.dt,Dt.noL,noLs]
  | h3 n=>simp [Tm.dt,Dt.noL,noLs]
  | h4 w ps ih =>
    simp only [Tm.dt,Dt.noL,noLs,true_and,and_true]
    rw [noLs_iff,dtL_map]
    intro d hd
    obtain ⟨p,hp,rfl⟩:=List.mem_map.mp hd
    exact ih p hp
theorem DatAt.mono {H H':Hp}(k:TSame H H'):∀ (d:Dt) (v:V),d.noL->DatAt H v d->DatAt H' v d:=by
  intro d
  induction d using Dt.ind with
  | h1 n=>intro v _ h;simpa only [DatAt] using h
  | h2 n=>intro v _ h;simpa only [DatAt] using h
  | h3 l ih =>
    intro v hn h
    simp only [DatAt] at h |-
    simp only [Dt.noL] at hn
    rw [noLs_iff] at hn
    obtain ⟨a,vs,rfl,h1,h2⟩:=h
    exact ⟨a,vs,rfl,k _ _ h1,.of_get h2.length fun i g1 g2=>ih _ (List.getElem_mem _) _ (hn _ (List.getElem_mem _)) (h2.get i g1 g2)⟩
  | h4 l ih=>intro v hn h;exact absurd hn (by simp [Dt.noL])
theorem DatAt.same {H H':Hp}(k:Same H H'):∀ (d:Dt) (v:V),DatAt H v d->DatAt H' v d:=by
  intro d
  induction d using Dt.ind with
  | h1 n=>intro v h;simpa only [DatAt] using h
  | h2 n=>intro v h;simpa only [DatAt] using h
  | h3 l ih =>
    intro v h
    simp only [DatAt] at h |-
    obtain ⟨a,vs,rfl,h1,h2⟩:=h
    exact ⟨a,vs,rfl,k _ _ h1,.of_get h2.length fun i g1 g2=>ih _ (List.getElem_mem _) _ (h2.get i g1 g2)⟩
  | h4 l ih =>
    intro v h
    simp only [DatAt] at h |-
    obtain ⟨a,vs,rfl,h1,h2⟩:=h
    exact ⟨a,vs,rfl,k _ _ h1,.of_get h2.length fun i g1 g2=>ih _ (List.getElem_mem _) _ (h2.get i g1 g2)⟩
theorem DatAt.inj {H:Hp}:∀ (d d':Dt) (v:V),DatAt H v d->DatAt H v d'->d=d':=by
  intro d
  induction d using Dt.ind with
  | h1 n =>
    intro d' v h h'
    simp only [DatAt] at h;subst h
    cases d' <;> simp_all [DatAt]
  | h2 n =>
    intro d' v h h'
    simp only [DatAt] at h;subst h
    cases d' <;> simp_all [DatAt]
  | h3 l ih =>
    intro d' v h h'
    simp only [DatAt] at h
    obtain ⟨a,vs,rfl,h1,h2⟩:=h
    cases d' with
    | int i=>simp [DatAt] at h'
    | str i=>simp [DatAt] at h'
    | lst m =>
      simp only [DatAt] at h'
      obtain ⟨b,us,e,h3,_⟩:=h'
      cases e;rw [h1] at h3;cases h3
    | tup m =>
      simp only [DatAt] at h'
      obtain ⟨b,us,e,h3,h4⟩:=h'
      cases e;rw [h1] at h3;cases h3
      congr 1
      refine List.ext_getElem (by rw [<- h2.length,<- h4.length]) fun i g1 g2=>?_
      exact ih _ (List.getElem_mem _) _ _ (h2.get i (by rw [h2.length];exact g1) g1) (h4.get i (by rw [h2.length];exact g1) g2)
  | h4 l ih =>
    intro d' v h h'
    simp only [DatAt] at h
    obtain ⟨a,vs,rfl,h1,h2⟩:=h
    cases d' with
    | int i=>simp [DatAt] at h'
    | str i=>simp [DatAt] at h'
    | tup m =>
      simp only [DatAt] at h'
      obtain ⟨b,us,e,h3,_⟩:=h'
      cases e;rw [h1] at h3;cases h3
    | lst m =>
      simp only [DatAt] at h'
      obtain ⟨b,us,e,h3,h4⟩:=h'
      cases e;rw [h1] at h3;cases h3
      congr 1
      refine List.ext_getElem (by rw [<- h2.length,<- h4.length]) fun i g1 g2=>?_
      exact ih _ (List.getElem_mem _) _ _ (h2.get i (by rw [h2.length];exact g1) g1) (h4.get i (by rw [h2.length];exact g1) g2)
abbrev TermAt (H:Hp) (v:V) (t:Tm):Prop:=DatAt H v t.dt
abbrev TermsAt (H:Hp) (vs:List V) (ts:List Tm):Prop:=DatsAt H vs (dtL ts)
theorem TermAt.mono {H H':Hp}{v:V}{t:Tm}(k:TSame H H') (h:TermAt H v t):TermAt H' v t:=DatAt.mono k _ _ t.noL h
theorem TermsAt.mono {H H':Hp}{vs:List V}{ts:List Tm}(k:TSame H H') (h:TermsAt H vs ts):TermsAt H' vs ts :=
  .of_get h.length fun i g1 g2=>DatAt.mono k _ _ (by
    have:(dtL ts)[i]∈ts.map Tm.dt:=by rw [<- dtL_map];exact List.getElem_mem _
    obtain ⟨p,_,e⟩:=List.mem_map.mp this
    rw [<- e];exact p.noL) (h.get i g1 g2)
theorem termAt_num {H:Hp}{v:V}{n:Int}:TermAt H v (.num n)↔∃ a,v=.ref a/\H a=some (.tup [.str "number",.int n]):=by
  simp only [TermAt,Tm.dt,DatAt,DatsAt]
  constructor
  · rintro ⟨a,vs,rfl,h,_,_,rfl,rfl,_,_,rfl,rfl,rfl⟩;exact ⟨a,rfl,h⟩
  · rintro ⟨a,rfl,h⟩;exact ⟨a,_,rfl,h,_,_,rfl,rfl,_,_,rfl,rfl,rfl⟩
theorem termAt_name {H:Hp}{v:V}{w:Str}:TermAt H v (.name w)↔∃ a,v=.ref a/\H a=some (.tup [.str "name",.str w]):=by
  simp only [TermAt,Tm.dt,DatAt,DatsAt]
  constructor
  · rintro ⟨a,vs,rfl,h,_,_,rfl,rfl,_,_,rfl,rfl,rfl⟩;exact ⟨a,rfl,h⟩
  · rintro ⟨a,rfl,h⟩;exact ⟨a,_,rfl,h,_,_,rfl,rfl,_,_,rfl,rfl,rfl⟩
theorem termAt_blank {H:Hp}{v:V}{w:Str}:TermAt H v (.blank w)↔∃ a,v=.ref a/\H a=some (.tup [.str "blank",.str w]):=by
  simp only [TermAt,Tm.dt,DatAt,DatsAt]
  constructor
  · rintro ⟨a,vs,rfl,h,_,_,rfl,rfl,_,_,rfl,rfl,rfl⟩;exact ⟨a,rfl,h⟩
  · rintro ⟨a,rfl,h⟩;exact ⟨a,_,rfl,h,_,_,rfl,rfl,_,_,rfl,rfl,rfl⟩
theorem termAt_thing {H:Hp}{v:V}{w:Str}{ps:List Tm}:TermAt H v (.thing w ps) ↔
    ∃ a b vs,v=.ref a/\H a=some (.tup [.str "thing",.str w,.ref b])/\H b=some (.tup vs)/\TermsAt H vs ps:=by
  simp only [TermAt,TermsAt,Tm.dt,DatAt,DatsAt]
  constructor
  · rintro ⟨a,vs,rfl,h,_,_,rfl,rfl,_,_,rfl,rfl,_,_,rfl,⟨b,us,rfl,h2,h3⟩,rfl⟩;exact ⟨a,b,us,rfl,h,h2,h3⟩
  · rintro ⟨a,b,us,rfl,h,h2,h3⟩;exact ⟨a,_,rfl,h,_,_,rfl,rfl,_,_,rfl,rfl,_,_,rfl,⟨b,us,rfl,h2,h3⟩,rfl⟩
theorem TermsAt.len {H:Hp}{vs:List V}{ts:List Tm}(h:TermsAt H vs ts):vs.length=ts.length:=by
  rw [h.length,dtL_map,zLM]
theorem TermsAt.at {H:Hp}{vs:List V}{ts:List Tm}(h:TermsAt H vs ts) (i:Nat) (h1:i<vs.length) (h2:i<ts.length):TermAt H vs[i] ts[i]:=by
  have q:=h.get i h1 (by rw [dtL_map,zLM];exact h2)
  simpa only [dtL_map,List.getElem_map] using q
theorem TermsAt.nil {H:Hp}:TermsAt H [] []:=by simp only [TermsAt,dtL,DatsAt]
theorem TermsAt.cons {H:Hp}{v:V}{t:Tm}{vs:List V}{ts:List Tm}(h:TermAt H v t) (h':TermsAt H vs ts):TermsAt H (v::vs) (t::ts):=by
  simp only [TermsAt,dtL,DatsAt];exact ⟨v,vs,rfl,h,h'⟩
theorem TermsAt.app {H:Hp}{vs us:List V}{ts qs:List Tm}(h:TermsAt H vs ts) (h':TermsAt H us qs):TermsAt H (vs++us) (ts++qs):=by
  have:=DatsAt.append h h'
  simpa only [TermsAt,dtL_map,List.map_append] using this
theorem TermsAt.of_at {H:Hp}{vs:List V}{ts:List Tm}(hl:vs.length=ts.length) (h:∀ (i:Nat) (h1:i<vs.length) (h2:i<ts.length),TermAt H vs[i] ts[i]):TermsAt H vs ts :=
  .of_get (by rw [dtL_map,zLM];exact hl) fun i h1 h2=>by
    have h2':i<ts.length:=by rwa [dtL_map,zLM] at h2
    have:=h i h1 h2'
    simpa only [dtL_map,List.getElem_map] using this
theorem TermsAt.dropN {H:Hp}{vs:List V}{ts:List Tm}(h:TermsAt H vs ts) (n:Nat):TermsAt H (vs.drop n) (ts.drop n) :=
  .of_at (by rw [List.length_drop,List.length_drop,h.len]) fun i h1 h2=>by
    rw [List.getElem_drop,List.getElem_drop]
    exact h.at _ _ _
theorem TermsAt.takeN {H:Hp}{vs:List V}{ts:List Tm}(h:TermsAt H vs ts) (n:Nat):TermsAt H (vs.take n) (ts.take n) :=
  .of_at (by rw [List.length_take,List.length_take,h.len]) fun i h1 h2=>by
    rw [List.getElem_take,List.getElem_take]
    exact h.at _ _ _
section
variable {P:Program}{w:World}{H:Hp}{s:Shared}
theorem tupOk (ok:HOk P w H s.heap) {a:Addr}{vs:List V}(h:H a=some (.tup vs)):∃ its:List Value,Vals vs its/\IsTup s.heap a its.toArray:=by
  obtain ⟨_,its,r,q⟩:=(show ObjOk P w H s.heap a (.tup vs) from ok a _ h)
  exact ⟨its,r,q⟩
theorem lstOk (ok:HOk P w H s.heap) {a:Addr}{vs:List V}(h:H a=some (.lst vs)):∃ its:List Value,Vals vs its/\s.heap.IsList a its.toArray:=by
  obtain ⟨_,its,n,r,q⟩:=(show ObjOk P w H s.heap a (.lst vs) from ok a _ h)
  exact ⟨its,r,⟨_,q,rfl,n,rfl⟩⟩
theorem Vals.at {vs:List V}{us:List Value}(r:Vals vs us) (i:Nat) (h1:i<vs.length) (h2:i<us.length):RelV vs[i] us[i]:=by
  obtain ⟨u,hu,rv⟩:=r.get (List.getElem?_eq_getElem h1)
  rw [List.getElem?_eq_getElem h2] at hu
  cases hu;exact rv
def EqD (A:Around) (s:Shared) (u u':Value) (d d':Dt):Prop:=∃ b,SeqAt.EqAt A s u u' b/\(b=true↔d=d')
theorem items_eq {A:Around}{l m:List Dt}{us us':List Value}(hl:us.length=l.length) (hm:us'.length=m.length)
    (h:∀ i (h1:i<l.length) (h2:i<m.length) (g1:i<us.length) (g2:i<us'.length),EqD A s us[i] us'[i] l[i] m[i]) :
    ∃ e:Nat->Bool,(∀ j (h1:j<us.toArray.size) (h2:j<us'.toArray.size),SeqAt.EqAt A s us.toArray[j] us'.toArray[j] (e j)) /\
      (((List.range (min us.toArray.size us'.toArray.size)).all e&&us.toArray.size==us'.toArray.size)=true↔l=m):=by
  have h0:∀ j:Nat,∃ b:Bool,∀ (h1:j<l.length) (h2:j<m.length) (g1:j<us.length) (g2:j<us'.length),SeqAt.EqAt A s us[j] us'[j] b/\(b=true↔l[j]=m[j]):=by
    intro j
    by_cases c:j<l.length/\j<m.length
    · obtain ⟨b,hb⟩:=h j c.1 c.2 (by omega) (by omega)
      exact ⟨b,fun _ _ _ _=>hb⟩
    · exact ⟨true,fun h1 h2=>absurd ⟨h1,h2⟩ c⟩
  obtain ⟨e,he⟩:=Classical.axiomOfChoice h0
  refine ⟨e,fun j h1 h2=>?_,?_⟩
  · have g1:j<us.length:=by simpa using h1
    have g2:j<us'.length:=by simpa using h2
    have:=(he j (by omega) (by omega) g1 g2).1
    simpa only [List.getElem_toArray] using this
  · rw [Bool.and_eq_true,List.all_eq_true]
    simp only [List.size_toArray,beq_iff_eq,List.mem_range]
    constructor
    · rintro ⟨h1,h2⟩
      refine List.ext_getElem (by omega) fun i g1 g2=>?_
      exact (he i g1 g2 (by omega) (by omega)).2.mp (h1 i (by omega))
    · rintro rfl
      refine ⟨fun i hi=>?_,by omega⟩
      exact (he i (by omega) (by omega) (by omega) (by omega)).2.mpr rfl
theorem in1_units (A:Around):A.in1.units=A.units+1:=rfl
theorem eqAt_dat (ok:HOk P w H s.heap):∀ (d d':Dt) (v v':V) (u u':Value) (A:Around),DatAt H v d->DatAt H v' d'->RelV v u->RelV v' u'->A.units+d.dep<cLine->EqD A s u u' d d':=by
  intro d
  induction d using Dt.ind with
  | h1 n =>
    intro d' v v' u u' A h h' r r' hu
    simp only [DatAt] at h;subst h
    obtain ⟨t,rfl⟩:=r
    cases d' with
    | int i=>simp only [DatAt] at h';subst h';obtain ⟨t',rfl⟩:=r';exact ⟨_,.int_int n t i t',by simp⟩
    | str x=>simp only [DatAt] at h';subst h';obtain ⟨t',rfl⟩:=r';exact ⟨_,.int_str n t x t',by simp⟩
    | tup m =>
      simp only [DatAt] at h';obtain ⟨a,vs,rfl,h1,_⟩:=h';cases r'
      obtain ⟨its,_,q⟩:=tupOk ok h1
      exact ⟨_,.int_tuple n t q (by omega),by simp⟩
    | lst m =>
      simp only [DatAt] at h';obtain ⟨a,vs,rfl,h1,_⟩:=h';cases r'
      obtain ⟨its,_,q⟩:=lstOk ok h1
      exact ⟨_,.int_list n t q (by omega),by simp⟩
  | h2 n =>
    intro d' v v' u u' A h h' r r' hu
    simp only [DatAt] at h;subst h
    obtain ⟨t,rfl⟩:=r
    cases d' with
    | int i=>simp only [DatAt] at h';subst h';obtain ⟨t',rfl⟩:=r';exact ⟨_,.str_int n t i t',by simp⟩
    | str x=>simp only [DatAt] at h';subst h';obtain ⟨t',rfl⟩:=r';exact ⟨_,.str_str n t x t',by simp⟩
    | tup m =>
      simp only [DatAt] at h';obtain ⟨a,vs,rfl,h1,_⟩:=h';cases r'
      obtain ⟨its,_,q⟩:=tupOk ok h1
      exact ⟨_,.str_tuple n t q (by omega),by simp⟩
    | lst m =>
      simp only [DatAt] at h';obtain ⟨a,vs,rfl,h1,_⟩:=h';cases r'
      obtain ⟨its,_,q⟩:=lstOk ok h1
      exact ⟨_,.str_list n t q (by omega),by simp⟩
  | h3 l ih =>
    intro d' v v' u u' A h h' r r' hu
    have hh:=h
    simp only [DatAt] at h;obtain ⟨a,vs,rfl,h1,h2⟩:=h;cases r
    obtain ⟨its,ri,q⟩:=tupOk ok h1
    simp only [Dt.dep] at hu
    cases d' with
    | int i=>simp only [DatAt] at h';subst h';obtain ⟨t',rfl⟩:=r';exact ⟨_,.tuple_int i t' q (by omega),by simp⟩
    | str x=>simp only [DatAt] at h';subst h';obtain ⟨t',rfl⟩:=r';exact ⟨_,.tuple_str x t' q (by omega),by simp⟩
    | lst m =>
      simp only [DatAt] at h';obtain ⟨b,us,rfl,h3,_⟩:=h';cases r'
      obtain ⟨its',_,q'⟩:=lstOk ok h3
      exact ⟨_,.tuple_list q q' (by omega),by simp⟩
    | tup m =>
      have hh':=h'
      simp only [DatAt] at h';obtain ⟨b,us,rfl,h3,h4⟩:=h';cases r'
      obtain ⟨its',ri',q'⟩:=tupOk ok h3
      by_cases e:a=b
      · subst e
        exact ⟨true,.same _,by simpa using DatAt.inj _ _ _ hh hh'⟩
      · have l1:=ri.length
        have l2:=ri'.length
        have l3:=h2.length
        have l4:=h4.length
        obtain ⟨f,hf,hb⟩:=items_eq (A:=A.in1) (s:=s) (l:=l) (m:=m) (us:=its) (us':=its') (by omega) (by omega) fun i h1 h2' g1 g2 =>
          ih _ (List.getElem_mem _) _ _ _ _ _ _ (h2.get i (by omega) h1) (h4.get i (by omega) h2') (Vals.at ri i _ _) (Vals.at ri' i _ _) (by
            have:=dep_mem (List.getElem_mem h1);rw [in1_units];omega)
        exact ⟨_,.of_refs e (.tuples q q' (by omega) hf),by simpa using hb⟩
  | h4 l ih =>
    intro d' v v' u u' A h h' r r' hu
    have hh:=h
    simp only [DatAt] at h;obtain ⟨a,vs,rfl,h1,h2⟩:=h;cases r
    obtain ⟨its,ri,q⟩:=lstOk ok h1
    simp only [Dt.dep] at hu
    cases d' with
    | int i=>simp only [DatAt] at h';subst h';obtain ⟨t',rfl⟩:=r';exact ⟨_,.list_int i t' q (by omega),by simp⟩
    | str x=>simp only [DatAt] at h';subst h';obtain ⟨t',rfl⟩:=r';exact ⟨_,.list_str x t' q (by omega),by simp⟩
    | tup m =>
      simp only [DatAt] at h';obtain ⟨b,us,rfl,h3,_⟩:=h';cases r'
      obtain ⟨its',_,q'⟩:=tupOk ok h3
      exact ⟨_,.list_tuple q q' (by omega),by simp⟩
    | lst m =>
      have hh':=h'
      simp only [DatAt] at h';obtain ⟨b,us,rfl,h3,h4⟩:=h';cases r'
      obtain ⟨its',ri',q'⟩:=lstOk ok h3
      by_cases e:a=b
      · subst e
        exact ⟨true,.same _,by simpa using DatAt.inj _ _ _ hh hh'⟩
      · have l1:=ri.length
        have l2:=ri'.length
        have l3:=h2.length
        have l4:=h4.length
        by_cases hs:l.length=m.length
        · obtain ⟨f,hf,hb⟩:=items_eq (A:=A.in1) (s:=s) (l:=l) (m:=m) (us:=its) (us':=its') (by omega) (by omega) fun i h1 h2' g1 g2 =>
            ih _ (List.getElem_mem _) _ _ _ _ _ _ (h2.get i (by omega) h1) (h4.get i (by omega) h2') (Vals.at ri i _ _) (Vals.at ri' i _ _) (by
              have:=dep_mem (List.getElem_mem h1);rw [in1_units];omega)
          have hz:its.toArray.size=its'.toArray.size:=by simp;omega
          refine ⟨_,.of_refs e (.lists q q' hz (by omega) hf),?_⟩
          rw [hz,Nat.min_self,beq_self_eq_true,Bool.and_true] at hb
          rw [hz]
          simpa using hb
        · refine ⟨_,.of_refs e (.lists_lengths q q' (by simp;omega) (by omega)),?_⟩
          simp only [Bool.false_eq_true,Dt.lst.injEq,false_iff]
          rintro rfl;exact hs rfl
end
end BF
namespace BF
open PySem PySem.Spec PyProof.Rows L2
section
variable {X:Cx}
theorem op_eqT:OpR X (compareOp .Eq) (fun x y H Q=>∃ l m,DatAt H x (.tup l)/\DatAt H y (.tup m)/\X.A.units+(Dt.tup l).dep<cLine/\∀ b,(b=true↔l=m)->Q (.bl b) H):=by
  intro pins s σ H x y v u Q I rx ry h
  obtain ⟨l,m,h,h',hu,q⟩:=h
  simp only [DatAt] at h h'
  obtain ⟨a,vs,rfl,h1,h2⟩:=h;cases rx
  obtain ⟨b,us,rfl,h3,h4⟩:=h';cases ry
  obtain ⟨its,ri,p1⟩:=tupOk I.hok h1
  obtain ⟨its',ri',p2⟩:=tupOk I.hok h3
  have l1:=ri.length
  have l2:=ri'.length
  have l3:=h2.length
  have l4:=h4.length
  simp only [Dt.dep] at hu
  obtain ⟨f,hf,hb⟩:=items_eq (A:=X.A.in1) (s:=s) (l:=l) (m:=m) (us:=its) (us':=its') (by omega) (by omega) fun i h1 h2' g1 g2 =>
    eqAt_dat I.hok _ _ _ _ _ _ _ (h2.get i (by omega) h1) (h4.get i (by omega) h2') (Vals.at ri i _ _) (Vals.at ri' i _ _) (by
      have:=dep_mem (List.getElem_mem h1);rw [in1_units];omega)
  exact SeqAt.eq_tupleAt p1 p2 (by omega) hf ⟨.bl _,H,I,rfl,q _ hb⟩
theorem op_neT:OpR X (compareOp .NotEq) (fun x y H Q=>∃ l m,DatAt H x (.tup l)/\DatAt H y (.tup m)/\X.A.units+(Dt.tup l).dep<cLine/\∀ b,(b=true↔¬ l=m)->Q (.bl b) H):=by
  intro pins s σ H x y v u Q I rx ry h
  obtain ⟨l,m,h,h',hu,q⟩:=h
  simp only [DatAt] at h h'
  obtain ⟨a,vs,rfl,h1,h2⟩:=h;cases rx
  obtain ⟨b,us,rfl,h3,h4⟩:=h';cases ry
  obtain ⟨its,ri,p1⟩:=tupOk I.hok h1
  obtain ⟨its',ri',p2⟩:=tupOk I.hok h3
  have l1:=ri.length
  have l2:=ri'.length
  have l3:=h2.length
  have l4:=h4.length
  simp only [Dt.dep] at hu
  obtain ⟨f,hf,hb⟩:=items_eq (A:=X.A.in1) (s:=s) (l:=l) (m:=m) (us:=its) (us':=its') (by omega) (by omega) fun i h1 h2' g1 g2 =>
    eqAt_dat I.hok _ _ _ _ _ _ _ (h2.get i (by omega) h1) (h4.get i (by omega) h2') (Vals.at ri i _ _) (Vals.at ri' i _ _) (by
      have:=dep_mem (List.getElem_mem h1);rw [in1_units];omega)
  refine SeqAt.RcNeAt.tuples p1 p2 (by omega) hf _ _ _ _ ⟨.bl _,H,I,rfl,q _ ?_⟩
  rw [<- hb,Bool.not_eq_true',Bool.not_eq_true]
theorem Tm.isTup (t:Tm):∃ l,t.dt=.tup l:=by cases t <;> exact ⟨_,rfl⟩
theorem op_eqTm:OpR X (compareOp .Eq) (fun x y H Q=>∃ t u,TermAt H x t/\TermAt H y u/\X.A.units+2 * t.nodes<cLine/\∀ b,(b=true↔t=u)->Q (.bl b) H):=by
  intro pins s σ H x y v u Q I rx ry h
  obtain ⟨t,t',h,h',hu,q⟩:=h
  obtain ⟨l,e⟩:=t.isTup
  obtain ⟨m,e'⟩:=t'.isTup
  have hd:=t.dep_le
  refine op_eqT pins s σ H x y v u Q I rx ry ⟨l,m,by rw [<- e];exact h,by rw [<- e'];exact h',by rw [<- e];omega,fun b hb=>q b (hb.trans ?_)⟩
  constructor
  · intro z;exact Tm.dt_inj _ _ (by rw [e,e',z])
  · rintro rfl;rw [e] at e';cases e';rfl
theorem op_neTm:OpR X (compareOp .NotEq) (fun x y H Q=>∃ t u,TermAt H x t/\TermAt H y u/\X.A.units+2 * t.nodes<cLine/\∀ b,(b=true↔¬ t=u)->Q (.bl b) H):=by
  intro pins s σ H x y v u Q I rx ry h
  obtain ⟨t,t',h,h',hu,q⟩:=h
  obtain ⟨l,e⟩:=t.isTup
  obtain ⟨m,e'⟩:=t'.isTup
  have hd:=t.dep_le
  refine op_neT pins s σ H x y v u Q I rx ry ⟨l,m,by rw [<- e];exact h,by rw [<- e'];exact h',by rw [<- e];omega,fun b hb=>q b (hb.trans (not_congr ?_))⟩
  constructor
  · intro z;exact Tm.dt_inj _ _ (by rw [e,e',z])
  · rintro rfl;rw [e] at e';cases e';rfl
theorem op_neNil (hu:X.A.units<cLine):OpR X (compareOp .NotEq) (fun x y H Q=>∃ a b xs,x=.ref a/\y=.ref b/\H a=some (.lst xs)/\H b=some (.lst [])/\Q (.bl (!xs.isEmpty)) H):=by
  intro pins s σ H x y v u Q I rx ry h
  obtain ⟨a,b,xs,rfl,rfl,h1,h2,q⟩:=h
  cases rx;cases ry
  obtain ⟨its,ri,p1⟩:=lstOk I.hok h1
  obtain ⟨its',ri',p2⟩:=lstOk I.hok h2
  cases ri'
  cases ri with
  | nil=>exact SeqAt.RcNeAt.lists (e:=fun _=>true) p1 p2 rfl hu (fun j g1 _=>absurd g1 (by simp)) _ _ _ _ ⟨.bl _,H,I,rfl,q⟩
  | cons r rr=>exact SeqAt.RcNeAt.lists_lengths p1 p2 (by simp) hu _ _ _ _ ⟨.bl _,H,I,rfl,q⟩
theorem op_eqNilT (hu:X.A.units<cLine):OpR X (compareOp .Eq) (fun x y H Q=>∃ a b xs,x=.ref a/\y=.ref b/\H a=some (.tup xs)/\H b=some (.tup [])/\Q (.bl xs.isEmpty) H):=by
  intro pins s σ H x y v u Q I rx ry h
  obtain ⟨a,b,xs,rfl,rfl,h1,h2,q⟩:=h
  cases rx;cases ry
  obtain ⟨its,ri,p1⟩:=tupOk I.hok h1
  obtain ⟨its',ri',p2⟩:=tupOk I.hok h2
  cases ri'
  refine SeqAt.eq_tupleAt (e:=fun _=>true) p1 p2 hu (fun j g1 g2=>absurd g2 (by simp)) ⟨.bl _,H,I,rfl,?_⟩
  cases ri with
  | nil=>exact q
  | cons r rr=>exact q
theorem op_le_str:OpR X (compareOp .LtE) (fun x y H Q=>∃ i j,x=.str i/\y=.str j/\Q (.bl (!decide (j.cps.toList<i.cps.toList))) H):=by
  intro pins s σ H x y v u Q I rx ry h
  obtain ⟨i,j,rfl,rfl,q⟩:=h
  obtain ⟨t,rfl⟩:=rx
  obtain ⟨t',rfl⟩:=ry
  exact PySem.P.le_str (fin_bl I q rfl)
inductive Kit:String->String->Bool->Prop
  | ii:Kit "int" "int" true
  | ib:Kit "int" "bool" false
  | is:Kit "int" "str" false
  | it:Kit "int" "tuple" false
  | il:Kit "int" "list" false
  | bb:Kit "bool" "bool" true
  | bi:Kit "bool" "int" true
  | bs:Kit "bool" "str" false
  | ss:Kit "str" "str" true
  | si:Kit "str" "int" false
  | sb:Kit "str" "bool" false
  | st:Kit "str" "tuple" false
  | sl:Kit "str" "list" false
  | tt:Kit "tuple" "tuple" true
  | ts:Kit "tuple" "str" false
  | ti:Kit "tuple" "int" false
  | tl:Kit "tuple" "list" false
  | ll:Kit "list" "list" true
  | lt:Kit "list" "tuple" false
  | ls:Kit "list" "str" false
theorem Kit.ok {K:PySem.W.Frag}{t c:String}{b:Bool}(k:Kit t c b):PySem.W.kitOne K (.type t) (.type c)=some b:=by
  cases k <;> kernel_rfl
theorem call_isi:CallR X (.builtin "isinstance") (fun xs H Q=>∃ x c t b,xs=[x,.ty c]/\TyOf X.K H x (.type t)/\Kit t c b/\Q (.bl b) H):=by
  intro pins s σ H xs us Q I r h
  obtain ⟨x,c,t,b,rfl,ty,k,q⟩:=h
  obtain ⟨u,u',rfl,ru,rc⟩:=vals2 r
  cases (show u'=Value.type c from rc)
  exact isinst_ok I ru ty k.ok fun tk=>⟨.bl b,H,I.tok tk,rfl,q⟩
theorem strs_are:∀ {ys:List Str}{us:List Value},Vals (ys.map V.str) us->StrsAre us ys
  | [],us,h=>by cases h;first | exact .nil | constructor
  | y :: ys,us,h=>by
    cases h with
    | cons r rr =>
      obtain ⟨t,rfl⟩:=r
      exact .cons y t (strs_are rr)
theorem mt_join:MtR X "str.join" (fun x vs H Q=>∃ (p:Addr) (ys:List Str),x=.str ""/\vs=[.ref p]/\H p=some (.lst (ys.map V.str))/\(ys.map (·.length)).sum<=16777216/\Q (.str (Txt.join "" ys)) H):=by
  intro pins s σ H x vs v us Q I rx rv h
  obtain ⟨p,ys,rfl,rfl,h1,hz,q⟩:=h
  obtain ⟨t,rfl⟩:=rx
  obtain ⟨u,rfl,ru⟩:=vals1 rv
  cases ru
  obtain ⟨its,ri,pl⟩:=lstOk I.hok h1
  refine join_list pl (by simpa using strs_are ri) ?_ fun t' k=>⟨.str _,H,I.tok k,⟨t',rfl⟩,q⟩
  have e:(Str.ofString "").length=0:=by decide +kernel
  rw [e];omega
end
def Cal (P:Program) (w:World) (K:PySem.W.Frag) (mg:Str->Option Value) (base:Heap) (k:Nat) (x:Str) (ps:List Str) (sp:Sp):Prop :=
  ∃ (f:Addr) (fd:FuncData),FnOk P w K mg base CX0 k f fd ps sp/\Binds K fd ps []/\PySem.W.keepIn K (.ref f)=true/\mg x=some (.ref f)
section
variable {X:Cx}{k:Nat}{x:Str}{ps:List Str}{sp:Sp}{p pos:Pos}{e:Expr}{es:List Expr}{t:TA}
theorem pe_cal (C:Cal X.prog X.w X.K X.mg X.base k x ps sp) (hr:Room k X.A) (ha:PA X (e::es) t) (hg:Gl X x:=by rfl) (hdb:(x==("__debug__":Str))=false:=by decide)
    (he:starEach (e::es) X.env=(false,eval e X.env)::starEach es X.env:=by rfl) (hpl:(backTo pos (starEach es X.env)).any (·.1)=false:=by rfl):PE X (.Call (.Name x p) (e::es) [] pos) (tCall sp [] E0 t):=by
  obtain ⟨f,fd,F,b,kp,m⟩:=C
  exact pe_call F hr hg m kp b .nil pass0 ha hdb he hpl
end
theorem bt_len:bootBuiltins "len"=some (.builtin "len"):=by decide +kernel
theorem bt_abs:bootBuiltins "abs"=some (.builtin "abs"):=by decide +kernel
theorem bt_isinstance:bootBuiltins "isinstance"=some (.builtin "isinstance"):=by decide +kernel
theorem bt_int:bootBuiltins "int"=some (.type "int"):=by decide +kernel
theorem bt_bool:bootBuiltins "bool"=some (.type "bool"):=by decide +kernel
theorem bt_str:bootBuiltins "str"=some (.type "str"):=by decide +kernel
theorem bt_tuple:bootBuiltins "tuple"=some (.type "tuple"):=by decide +kernel
theorem bt_list:bootBuiltins "list"=some (.type "list"):=by decide +kernel
theorem bt_reversed:bootBuiltins "reversed"=some (.type "reversed"):=by decide +kernel
end BF
namespace BF
open PySem
theorem ten39:(10:Int) ^ 39<26 ^ 28:=by decide +kernel
structure WI (l:Int) (x:Str):Prop where
  lo : -1<=l
  hi:(l+1) * 26 ^ x.cps.toList.length<=10 ^ 39
  ab:∀ c∈x.cps.toList,97<=c/\c<=122
  ne:l = -1->1<=x.cps.toList.length
  ln:x.cps.toList.length<=28
theorem WI.start (i:Int):WI ((if i<0 then -i else i) % 10 ^ 39) "":=by
  have e:(Str.ofString "").cps.toList=[]:=by decide +kernel
  have h0:(0:Int)<=(if i<0 then -i else i) % 10 ^ 39:=Int.emod_nonneg _ (by decide +kernel)
  have h1:(if i<0 then -i else i) % 10 ^ 39<10 ^ 39:=Int.emod_lt_of_pos _ (by decide +kernel)
  refine ⟨by omega,?_,?_,by omega,?_⟩
  · rw [e,zLN,Int.pow_zero,Int.mul_one];omega
  · rw [e];simp
  · rw [e];simp
theorem pow26_mono {a b:Nat}(h:a<=b):(26:Int) ^ a<=26 ^ b:=by
  obtain ⟨k,rfl⟩:=Nat.exists_eq_add_of_le h
  rw [Int.pow_add]
  have h1:(1:Int)<=26 ^ k:=by
    induction k with
    | zero=>simp
    | succ k ih=>rw [Int.pow_succ];omega
  have h2:(0:Int)<=26 ^ a:=Int.pow_nonneg (by decide)
  calc (26:Int) ^ a=26 ^ a * 1:=by rw [Int.mul_one]
    _<=26 ^ a * 26 ^ k:=Int.mul_le_mul_of_nonneg_left h1 h2
theorem WI.short {l:Int}{x:Str}(h:WI l x) (c:0<=l):x.cps.toList.length<=27:=by
  by_cases hl:x.cps.toList.length<=27
  · exact hl
  · exfalso
    have h1:=pow26_mono (a:=28) (b:=x.cps.toList.length) (by omega)
    have h2:=h.hi
    have h3:(0:Int)<=26 ^ x.cps.toList.length:=Int.pow_nonneg (by decide)
    have h4:(1:Int) * 26 ^ x.cps.toList.length<=(l+1) * 26 ^ x.cps.toList.length:=Int.mul_le_mul_of_nonneg_right (by omega) h3
    have h5:=ten39
    rw [Int.one_mul] at h4
    exact absurd (Int.lt_of_le_of_lt (Int.le_trans h1 (Int.le_trans h4 h2)) h5) (Int.lt_irrefl _)
def alpha:Str:="abcdefghijklmnopqrstuvwxyz"
theorem alpha_at (k:Nat) (h:k<26):alpha.cps.toList[k]?=some (97+k):=by
  have:∀ k:Fin 26,alpha.cps.toList[(k:Nat)]?=some (97+(k:Nat)):=by decide +kernel
  exact this ⟨k,h⟩
theorem cps_append (a b:Str):(a++b).cps.toList=a.cps.toList++b.cps.toList:=by
  show (a.cps++b.cps).toList=_
  rw [Array.toList_append]
theorem len_cps (a:Str):a.length=a.cps.toList.length:=by simp [Str.length]
theorem WI.turn {l:Int}{x:Str}{c:Nat}(h:WI l x) (h0:0<=l) (hc:97<=c/\c<=122):WI (l / 26 - 1) ((⟨#[c]⟩:Str)++x):=by
  have e:((⟨#[c]⟩:Str)++x).cps.toList=c::x.cps.toList:=by rw [cps_append];rfl
  have hs:=h.short h0
  have hp:(0:Int)<=26 ^ x.cps.toList.length:=Int.pow_nonneg (by decide)
  have hd:0<=l / 26:=Int.ediv_nonneg h0 (by decide)
  refine ⟨by omega,?_,?_,fun _=>?_,?_⟩
  · rw [e,zLC,Int.pow_succ]
    have e1:(l / 26 - 1+1) * (26 ^ x.cps.toList.length * 26)=(l / 26 * 26) * 26 ^ x.cps.toList.length:=by
      rw [show l / 26 - 1+1=l / 26 from by omega,Int.mul_comm (26 ^ _) 26,<- Int.mul_assoc]
    rw [e1]
    exact Int.le_trans (Int.mul_le_mul_of_nonneg_right (by omega) hp) h.hi
  · rw [e]
    intro d hd
    rcases List.mem_cons.mp hd with rfl | hd
    · exact hc
    · exact h.ab d hd
  · rw [e];simp
  · rw [e,zLC];omega
theorem WI.wd {l:Int}{x:Str}(h:WI l x) (c:¬ 0<=l):Wd x/\x.cps.toList.length<=30 :=
  have:=h.ln
  ⟨⟨h.ne (by have:=h.lo;omega),by omega,h.ab⟩,by omega⟩
theorem Wd.lits:Wd "oak"/\Wd "oik"/\Wd "f"/\Wd "pair"/\Wd "row"/\Wd "end"/\Wd "x"/\Wd "y"/\Wd "z":=by
  unfold Wd;decide +kernel
theorem Wd.zz {x:Str}(h:Wd x) (hl:x.cps.toList.length<=30):Wd ((("zz":Str))++x):=by
  have e:(Str.ofString "zz").cps.toList=[122,122]:=by decide +kernel
  unfold Wd
  rw [cps_append,e]
  refine ⟨by simp,by simp only [zLA,zLC,zLN];omega,?_⟩
  intro c hc
  simp only [List.cons_append,List.nil_append,List.mem_cons] at hc
  rcases hc with rfl | rfl | hc
  · decide
  · decide
  · exact h.2.2 c hc
end BF
namespace BF
open PySem PySem.Spec PyProof.Rows L2
theorem ite_f {b:Bool}{A B:Prop}(h:b=false) (hB:B):if b=true then A else B:=by rw [h];exact iteF hB
theorem ite_t {b:Bool}{A B:Prop}(h:b=true) (hA:A):if b=true then A else B:=by rw [h];exact iteT hA
theorem Wd.ne {x:Str}(h:Wd x):x≠"":=by
  intro z
  have e:(Str.ofString "").cps.toList.length=0:=by decide +kernel
  have:=h.1
  rw [z,e] at this
  omega
theorem TermsAt.snoc {H:Hp}{us:List V}{u:V}{ts:List Tm}{t:Tm}(h:TermsAt H (us++[u]) (ts++[t])):TermsAt H us ts/\TermAt H u t:=by
  have hl:=h.len
  simp only [zLA,zLC,zLN] at hl
  have hl':us.length=ts.length:=by omega
  refine ⟨.of_at hl' fun i h1 h2=>?_,?_⟩
  · have:=h.at i (by simp;omega) (by simp;omega)
    simpa only [List.getElem_append_left h1,List.getElem_append_left h2] using this
  · have:=h.at us.length (by simp) (by simp;omega)
    simpa [hl'] using this
theorem in_alpha {c:Nat}(h1:97<=c) (h2:c<=122):(!(!(Builtin.Str.occurrences alpha ⟨#[c]⟩ 0 alpha.length 1).isEmpty))=false:=by
  have:∀ k:Fin 26,(!(!(Builtin.Str.occurrences alpha ⟨#[97+(k:Nat)]⟩ 0 alpha.length 1).isEmpty))=false:=by decide +kernel
  have h:=this ⟨c - 97,by omega⟩
  simp only [show 97+(c - 97)=c from by omega] at h
  exact h
def Its (z:Str):It:=⟨fun i _=>i<z.cps.size,fun i H x H'=>H'=H/\∃ c,z.cps.toList[i]?=some c/\x=.str ⟨#[c]⟩,fun i _=>i=z.cps.size⟩
theorem turn_str {P:Program}{w:World}{K:PySem.W.Frag}{tg:Expr}(it:Addr) (z:Str) (t:Tok) (nm:String)
    (hn:["enumerate","zip","dict_itemiterator","dict_reverseitemiterator","odict_iterator","itertools.zip_longest","itertools.pairwise"].contains nm=false)
    (W:∀ A':Around,A'.handled=none->Walks P w A' it [it] [it] z.cps.size (SignAt z) (fun i h=>h.IsStrIter it nm z t i))
    (hself:∀ (A:Around) (i:Nat) (s:Shared) (Q:Value->Shared->Prop) (E:Value->Shared->Prop),s.heap.IsStrIter it nm z t i->Q (.ref it) s->wpAny (model P w) A (pyIter (.ref it)) Q E s) :
    Turn P w K tg (Its z) [it] it (fun i h=>h.IsStrIter it nm z t i) where
  mem:=by simp
  obj:=fun i h st b hb=>by
    have e:b=it:=by simpa using hb
    subst e
    obtain ⟨o,e,c,d⟩:=st
    exact ⟨o,e,fun v z=>by rw [d] at z;cases z⟩
  keep:=fun i h h' st k=>let ⟨o,ho,r⟩:=st;⟨o,k it (by simp) o ho,r⟩
  item:=by
    intro X hP hw hK hc i pins s σ H E I hf st hg
    subst hP hw hK
    obtain ⟨f0,f1,f2,f3,f4,f5⟩:=hf it (by simp)
    refine (W _ (I.ok.hd hc)).item i s _ _ hg st fun v h' tk hv st' kk=>?_
    obtain ⟨c,u,hc',rfl⟩:=hv
    have I1:Inv X pins σ H { s with heap:=h',toks:=tk }:=I.turned (fun b o hb e=>kk b o (by simpa using hb) e) f0 f1 f3 f4 f5
    obtain ⟨o,e,c0,d⟩:=id st'
    exact ⟨_,rfl,go_of (s:={ s with heap:=h',toks:=tk }) e c0 d hn ⟨.str ⟨#[c]⟩,H,I1,⟨u,rfl⟩,⟨rfl,c,by simpa using hc',rfl⟩,st',fun b hb=>(hf b hb).1⟩⟩
  done:=by
    intro X hP hw hK hc i pins s σ H E I hf st hg
    subst hP hw hK
    obtain ⟨f0,f1,f2,f3,f4,f5⟩:=hf it (by simp)
    have hi:i=z.cps.size:=hg
    subst hi
    exact (W _ (I.ok.hd hc)).done s _ _ st fun h' tk kk=>⟨rfl,I.turned (fun b o hb e=>kk b o (by simpa using hb) e) f0 f1 f3 f4 f5⟩
  self:=fun A i s Q E st h=>hself A i s Q E st h
section
variable {X:Cx}{tg:Expr}
def iStr (tl:TE):TI:=fun σ H R=>tl σ H fun x H1=>∃ z,x=.str z/\R (Its z) H1
theorem pi_str {l:Expr}{tl:TE}(hl:PE X l tl):PI X tg l (iStr tl):=by
  intro pins s σ H R I h
  refine thn (hl pins s σ H _ I h) fun v s1 ⟨x,H1,I1,r1,q1⟩=>?_
  obtain ⟨z,e,q⟩:=q1
  subst e
  obtain ⟨t,rfl⟩:=r1
  have fp:∀ b∈[s1.heap.objs.size],FpOk X pins H1 b:=fun b hb=>by
    have e:b=s1.heap.objs.size:=by simpa using hb
    subst e
    exact I1.fpOk (Nat.le_refl _) (I1.hok.fresh (Nat.le_refl _))
  cases ha:z.cps.all (·<128)
  · refine wpAny_pyIter_wide ha ?_
    exact ⟨s1.heap.objs.size,[s1.heap.objs.size],_,_,H1,rfl,I1.kept (t':=s1.toks) fun b o e=>Heap.get?_push_of_some _ e,turn_str _ z t "str_iterator" (by decide) (fun A' hA=>Walks.strWide hA _ z t) (fun A i s Q E st h=>wpAny_pyIter_striter_wide st h),⟨_,Heap.get?_push_size _ rfl,rfl,rfl⟩,fp,q⟩
  · refine wpAny_pyIter_ascii ha ?_
    exact ⟨s1.heap.objs.size,[s1.heap.objs.size],_,_,H1,rfl,I1.kept (t':=s1.toks) fun b o e=>Heap.get?_push_of_some _ e,turn_str _ z t "str_ascii_iterator" (by decide) (fun A' hA=>Walks.strAscii hA _ z t) (fun A i s Q E st h=>wpAny_pyIter_striter_ascii st h),⟨_,Heap.get?_push_size _ rfl,rfl,rfl⟩,fp,q⟩
end
theorem for_str {z:Str}{g:TG}{tb:TS}{D:Ends}{σ:L2.St}{H:Hp}(Pv:Nat->L2.St->Hp->Prop) (h0:Pv 0 σ H)
    (hs:∀ i c σ H,z.cps.toList[i]?=some c->Pv i σ H->g (.str ⟨#[c]⟩) σ H fun σ2 H2=>tb { D with nx:=Pv (i+1),ct:=Pv (i+1),bk:=D.nx } σ2 H2) (hd:∀ σ H,Pv z.cps.size σ H->D.nx σ H) :
    ∃ W:Nat->Nat->L2.St->Hp->Prop,(∃ m,W 0 m σ H)/\∀ i m σ H,W i m σ H ->
      ((Its z).stop i H/\D.nx σ H)\/((Its z).go i H/\∃ N:L2.St->Hp->Prop,(∀ σ' H',N σ' H'->∃ m',m'<m/\W (i+1) m' σ' H')/\∀ x H',(Its z).yld i H x H'->g x σ H' fun σ2 H2=>tb { D with nx:=N,ct:=N,bk:=D.nx } σ2 H2):=by
  refine ⟨fun i m σ H=>m=z.cps.size - i/\i<=z.cps.size/\Pv i σ H,⟨z.cps.size,by simp,Nat.zero_le _,h0⟩,?_⟩
  rintro i m σ H ⟨rfl,hi,p⟩
  by_cases c:i=z.cps.size
  · subst c
    exact .inl ⟨rfl,hd σ H p⟩
  · have hlt:i<z.cps.size:=by omega
    refine .inr ⟨hlt,Pv (i+1),fun σ' H' n=>⟨z.cps.size - (i+1),by omega,rfl,by omega,n⟩,?_⟩
    rintro x H' ⟨rfl,c,hc,rfl⟩
    exact hs i c σ H' hc p
section
variable {X:Cx}{tg:Expr}
end
end BF
namespace BF
open PySem PySem.Spec PyProof.Rows L2
open Sem (wp)
namespace RV
theorem owner_rev:Manifest.owners.lookup (String.ofList ['d','e','s','r','e','v','e','r'].reverse)=some Manifest.sig_reversed:=by kernel_rfl
theorem slot_next:Slot "reversed" "__next__" "reversed.__next__" :=
  .of (owner:="reversed") (n:="__next__") (by rw [typeLookup_type,builtinLookup_eq_fast];kernel_rfl) (by decide +kernel) (by decide +kernel) (by decide +kernel)
    (by first | exact .inl (by decide +kernel) | exact .inr (by decide +kernel)) (by rw [isSubtype_type];kernel_rfl)
theorem entry_next:entryFor table "reversed.__next__"=some Builtin.«reversed.__next__»:=entryFor_of_tree (by kernel_rfl)
theorem args_next (a:Value):argsOk "reversed.__next__" ⟨[a],[]⟩:=by
  unfold argsOk;rw [signature?_of (id:="reversed.__next__") (n:=['_','_','t','x','e','n','_','_']) (o:=['d','e','s','r','e','v','e','r']) (by kernel_rfl) owner_rev];kernel_rfl
theorem slot_iter:Slot "reversed" "__iter__" "reversed.__iter__" :=
  .of (owner:="reversed") (n:="__iter__") (by rw [typeLookup_type,builtinLookup_eq_fast];kernel_rfl) (by decide +kernel) (by decide +kernel) (by decide +kernel)
    (by first | exact .inl (by decide +kernel) | exact .inr (by decide +kernel)) (by rw [isSubtype_type];kernel_rfl)
theorem args_iter (a:Value):argsOk "reversed.__iter__" ⟨[a],[]⟩:=by
  unfold argsOk;rw [signature?_of (id:="reversed.__iter__") (n:=['_','_','r','e','t','i','_','_']) (o:=['d','e','s','r','e','v','e','r']) (by kernel_rfl) owner_rev];kernel_rfl
theorem entry_iter:entryFor table "reversed.__iter__"=some Builtin.«dict_keyiterator.__iter__» :=
  entryFor_alias (id':="dict_keyiterator.__iter__") (by kernel_rfl) (by first | rfl | decide +kernel | (unfold String.splitOn;simp +decide [String.splitOnAux])) (by decide +kernel) (by kernel_rfl)
theorem entry_new:entryFor table "reversed.__new__"=some Builtin.«reversed.__new__»:=entryFor_of_tree (by kernel_rfl)
theorem tuple_norev:typeLookup (.type "tuple") "__reversed__"=pure none:=by rw [typeLookup_type,builtinLookup_eq_fast];kernel_rfl
theorem sub_tuple_dict:isSubtype (.type "tuple") (.type "dict")=pure false:=by rw [isSubtype_type];kernel_rfl
theorem sub_rev:isSubtype (.type "reversed") (.type "reversed")=pure true:=by rw [isSubtype_type];kernel_rfl
theorem init_rev:Slot "reversed" "__init__" "object.__init__" :=
  .of (owner:="object") (n:="__init__") (by rw [typeLookup_type,builtinLookup_eq_fast];kernel_rfl) (by decide +kernel) (by decide +kernel) (by decide +kernel)
    (by first | exact .inl (by decide +kernel) | exact .inr (by decide +kernel)) (by rw [isSubtype_type];kernel_rfl)
theorem mro_reversed:mroOf (.type "reversed")=pure [.type "reversed",.type "object"]:=by rw [mroOf_type];kernel_rfl
theorem lookup_reversed_new:typeLookup (.type "reversed") "__new__"=pure (some (.builtin "reversed.__new__")):=by rw [typeLookup_type,builtinLookup_eq_fast];kernel_rfl
theorem made_reversed:Bind.madeBy (.type "reversed")=pure (some "reversed.__new__"):=madeBy_type mro_reversed lookup_reversed_new (by decide +kernel)
theorem called_rev:TypeCalled "reversed" "reversed.__new__" "object.__init__" :=
  ⟨by decide +kernel,by decide +kernel,⟨_,_,mro_reversed⟩,made_reversed,by decide +kernel,sub_rev,init_rev⟩
end RV
def rvObj (t:Addr) (i:Int):Obj:={ cls:=.type "reversed",data:=.fields #[.ref t,rawInt i] }
section
variable {prog:Program}{w:World}{A:Around}{E:Value->Shared->Prop}{s:Shared}
theorem next_rv {it t:Addr}{i:Nat}{items:Array Value}{x:Value}{Q:Option Value->Shared->Prop}(hit:s.heap.get? it=some (rvObj t (i:Int))) (ht:IsTup s.heap t items) (hx:items[i]?=some x) (hz:(items.size:Int)<2 ^ 63)
    (hQ:∀ h' tk,h'.get? it=some (rvObj t ((i:Int) - 1))->Heap.SameBut it s.heap h'->Q (some x) { s with heap:=h',toks:=tk }):wpAny (model prog w) A (pyNext (.ref it)) Q E s:=by
  have hT:s.TypeIs (.ref it) "reversed":=⟨_,hit,rfl⟩
  have hi:i<items.size:=(Array.getElem?_eq_some_iff.mp hx).1
  unfold pyNext
  refine wpAny_bind (wpAny_attempt (wpAny_callSpecial?_slot (name:=Str.ofString "__next__") hT RV.slot_next (wpAny_call_entry RV.slot_next hT RV.entry_next ?_ (RV.args_next _))))
  unfold Builtin.«reversed.__next__»
  refine wpAny_bind (wpAny_of_eq (a:=(Value.ref it,[])) rfl ?_)
  try dsimp only
  refine wpAny_bind (wpAny_field hit rfl (x:=.ref t) rfl ?_)
  refine wpAny_bind (wpAny_field hit rfl (x:=rawInt (i:Int)) rfl ?_)
  show wpAny _ _ (if (i:Int)<0 then _ else _) _ _ s
  rw [if_neg (by omega)]
  refine wpAny_bind (wpAny_specialOf ht.typeIs slot_tuple_getitem.lookup ?_)
  show wpAny _ _ (if (false:Bool)=true then _ else _) _ _ s
  rw [if_neg Bool.false_ne_true]
  refine wpAny_bind (wpAny_mkInt ?_)
  refine wpAny_bind (wpAny_attempt (getItem_tuple (j:=i) (x:=x) (s:={ s with toks:=s.toks+1 }) ht (by omega) (by omega) (by unfold seqIndex?;simp;omega) hx ?_))
  refine wpAny_bind (wpAny_field (s:={ s with toks:=s.toks+1 }) hit rfl (x:=rawInt (i:Int)) rfl ?_)
  refine wpAny_bind (wpAny_setField (s:={ s with toks:=s.toks+1 }) hit rfl (by simp) ?_)
  refine wpAny_pure ⟨x,rfl,wpAny_pure (hQ _ _ ?_ (Heap.SameBut.update ..))⟩
  exact Heap.get?_update_self _ hit (Obj.isFreed_of_fields (Obj.data_mapFields rfl _))
theorem next_rv_end {it t:Addr}{Q:Option Value->Shared->Prop}(hh:A.handled=none) (hit:s.heap.get? it=some (rvObj t (-1)))
    (hQ:∀ h',Heap.ExtBut it s.heap h'->Q none { s with heap:=h' }):wpAny (model prog w) A (pyNext (.ref it)) Q E s:=by
  have hT:s.TypeIs (.ref it) "reversed":=⟨_,hit,rfl⟩
  unfold pyNext
  refine wpAny_bind (wpAny_attempt (wpAny_callSpecial?_slot (name:=Str.ofString "__next__") hT RV.slot_next (wpAny_call_entry RV.slot_next hT RV.entry_next ?_ (RV.args_next _))))
  unfold Builtin.«reversed.__next__»
  refine wpAny_bind (wpAny_of_eq (a:=(Value.ref it,[])) rfl ?_)
  try dsimp only
  refine wpAny_bind (wpAny_field hit rfl (x:=.ref t) rfl ?_)
  refine wpAny_bind (wpAny_field hit rfl (x:=rawInt (-1)) rfl ?_)
  show wpAny _ _ (if (-1:Int)<0 then _ else _) _ _ s
  rw [if_pos (by decide)]
  refine wpAny_bind (wpAny_rule ?_)
  refine wpAny_bind ?_
  refine wpAny_bind (m:=setField (.ref it) 1 (rawInt (-1))) (wpAny_setField hit rfl (by simp) ?_)
  have hit2:=Heap.get?_update_self (h:=s.heap) (Obj.mapFields (·.setIfInBounds 1 (rawInt (-1)))) hit (Obj.isFreed_of_fields (Obj.data_mapFields rfl _))
  refine wpAny_setField (s:={ s with heap:=s.heap.update it (Obj.mapFields (·.setIfInBounds 1 (rawInt (-1)))) }) hit2 (Obj.data_mapFields rfl _) (by simp) ?_
  refine wpAny_bind ?_
  show wpAny _ _ (newExc (.type "StopIteration") [] >>= _) _ _ _
  refine wpAny_bind ?_
  simp only [newExc,newTuple]
  refine wpAny_bind (wpAny_newObj_type ?_ (by size_fits))
  refine wpAny_bind (m:=firstArgMember _ _) (wpAny_of_eq (a:=Value.none) (by first | rfl | (simp only [firstArgMember];rfl)) ?_)
  refine wpAny_newObj_type ?_ (by size_fits)
  simp only [raiseNew]
  refine wpAny_bind (wpAny_handled ?_)
  first | rw [show A.in1.handled=none from hh] | rw [hh]
  refine wpAny_bind (wpAny_pure (wpAny_throw ?_))
  refine wpAny_bind (wpAny_isInstance (T:="StopIteration") (b:=true) ⟨_,Heap.get?_push_size _ rfl,rfl⟩ isSubtype_stop ?_)
  exact wpAny_pure (hQ _ ((((Heap.SameBut.update ..).trans (Heap.SameBut.update ..)).extBut.push _).push _))
theorem iter_rv {it t:Addr}{i:Int}{Q:Value->Shared->Prop}(hit:s.heap.get? it=some (rvObj t i)) (h:Q (.ref it) s):wpAny (model prog w) A (pyIter (.ref it)) Q E s:=by
  have hT:s.TypeIs (.ref it) "reversed":=⟨_,hit,rfl⟩
  refine wpAny_pyIter_slot hT RV.slot_iter (wpAny_call_entry RV.slot_iter hT RV.entry_iter ?_ (RV.args_iter _))
  show wpAny _ _ (ret (.ref it)) _ _ s
  exact wpAny_pure ⟨_,rfl,"reversed",_,hT,RV.slot_next.lookup,h⟩
theorem newClass_rv (a:Value):Builtin.SmallTypes.newClass "reversed" ⟨[.type "reversed",a],[]⟩=pure (.type "reversed",[a]):=by
  unfold Builtin.SmallTypes.newClass
  simp only [isType,RV.sub_rev,pure_bind,Bool.not_true,Bool.false_eq_true,if_false]
theorem meets_rv_new (t:Addr) (items:Array Value) :
    Meets (Builtin.«reversed.__new__» ⟨[.type "reversed",.ref t],[]⟩) (fun _ R s=>IsTup s.heap t items/\(items.size:Int)<2 ^ 63 /\
      ∀ tk,R (.ok (.ret (.ref s.heap.objs.size))) { s with heap:=s.heap.push (rvObj t ((items.size:Int) - 1)),toks:=tk }) :=
  .of_wp fun prog w A R s h=>by
    obtain ⟨ht,hz,h⟩:=h
    unfold Builtin.«reversed.__new__»
    refine wpAny_bind (wpAny_of_eq (newClass_rv _) ?_)
    try dsimp only
    refine wpAny_bind (wpAny_of_eq (a:=()) (by first | rfl | kernel_rfl) ?_)
    refine wpAny_bind (wpAny_of_eq (a:=()) (by first | rfl | kernel_rfl) ?_)
    try dsimp only
    refine wpAny_bind (wpAny_specialOf ht.typeIs RV.tuple_norev ?_)
    try dsimp only
    refine wpAny_bind ?_
    refine wpAny_bind (m:=isInstance (.ref t) (.type "dict")) (wpAny_isInstance ht.typeIs RV.sub_tuple_dict ?_)
    show wpAny _ _ (if (false:Bool)=true then _ else _) _ _ _
    rw [if_neg Bool.false_ne_true]
    refine wpAny_bind (wpAny_specialOf ht.typeIs slot_tuple_getitem.lookup ?_)
    try dsimp only
    rw [if_pos (by decide)]
    refine wpAny_pure ?_
    show wpAny _ _ (if (false:Bool)=true then _ else _) _ _ _
    rw [if_neg Bool.false_ne_true]
    refine wpAny_bind (len_tuple ht hz ?_)
    refine wpAny_bind (wpAny_of_eq (a:=some (items.size:Int)) (by first | rfl | simp [asInt?]) ?_)
    try dsimp only
    refine wpAny_bind (m:=newObj (.type "reversed") (.fields #[.ref t,rawInt ((items.size:Int) - 1)])) (wpAny_newObj_type ?_ (by size_fits))
    exact wpAny_pure ⟨_,rfl,h _⟩
theorem call_rv {t:Addr}{items:Array Value}{Q:Value->Shared->Prop}(ht:IsTup s.heap t items) (hz:(items.size:Int)<2 ^ 63)
    (h:∀ tk,Q (.ref s.heap.objs.size) { s with heap:=s.heap.push (rvObj t ((items.size:Int) - 1)),toks:=tk }):wpAny (model prog w) A (call (.type "reversed") [.ref t]) Q E s :=
  callType_new RV.called_rev (by decide) (by kernel_rfl) (by kernel_rfl) (fun obj=>PySem.F.args_object_init_2 obj _) RV.entry_new (meets_rv_new t items) ⟨ht,hz,fun tk=>⟨⟨_,Heap.get?_push_size _ rfl,rfl⟩,h tk⟩⟩
end
def Itv (K:PySem.W.Frag) (a:Addr) (xs:List V):It :=
  ⟨fun i H=>SqT K H a xs/\i<xs.length,fun i H x H'=>H'=H/\xs.reverse[i]?=some x,fun i H=>i=xs.length⟩
theorem turn_rv {P:Program}{w:World}{K:PySem.W.Frag}{tg:Expr}(a it:Addr) (xs:List V):Turn P w K tg (Itv K a xs) [it] it (fun i h=>h.get? it=some (rvObj a ((xs.length:Int) - 1 - (i:Nat)))) where
  mem:=by simp
  obj := fun i h st b hb=>by
    have e:b=it:=by simpa using hb
    subst e
    exact ⟨_,st,fun v z=>by
      have z':Data.fields _=Data.cell v:=z
      cases z'⟩
  keep:=fun i h h' st k=>k it (by simp) _ st
  item:=by
    intro X hP hw hK hc i pins s σ H E I hf st hg
    subst hP hw hK
    obtain ⟨hq,hi⟩:=hg
    obtain ⟨its,rv,p,hz⟩:=I.tuple hq
    obtain ⟨f0,f1,f2,f3,f4,f5⟩:=hf it (by simp)
    have hl:=rv.length
    have hn:=line63
    have e1:(xs.length:Int) - 1 - (i:Nat)=((xs.length - 1 - i:Nat):Int):=by omega
    obtain ⟨x,hx⟩:∃ x,xs[xs.length - 1 - i]?=some x:=⟨_,List.getElem?_eq_getElem (by omega)⟩
    obtain ⟨u,hu,ru⟩:=rv.get hx
    rw [e1] at st
    refine next_rv st p (x:=u) (by simpa using hu) (by simp only [List.size_toArray];omega) fun h' tk st' sb=>?_
    have I1:Inv X pins σ H { s with heap:=h',toks:=tk }:=I.turned (fun b o hb e=>(sb.2 b hb).trans e) f0 f1 f3 f4 f5
    have e2:((xs.length - 1 - i:Nat):Int) - 1=(xs.length:Int) - 1 - ((i+1:Nat):Int):=by omega
    rw [e2] at st'
    exact ⟨u,rfl,go_of (s:={ s with heap:=h',toks:=tk }) (n:="reversed") st' rfl rfl (by decide) ⟨x,H,I1,ru,⟨rfl,by rw [List.getElem?_reverse (by omega)];exact hx⟩,st',fun b hb=>(hf b hb).1⟩⟩
  done:=by
    intro X hP hw hK hc i pins s σ H E I hf st hg
    subst hP hw hK
    obtain ⟨f0,f1,f2,f3,f4,f5⟩:=hf it (by simp)
    have hi:i=xs.length:=hg
    have e1:(xs.length:Int) - 1 - (i:Nat) = -1:=by omega
    rw [e1] at st
    exact next_rv_end (I.ok.hd hc) st fun h' eb=>⟨rfl,I.turned (t':=s.toks) (fun b o hb e=>eb b o hb e) f0 f1 f3 f4 f5⟩
  self:=fun _ _ _ _ _ st h=>iter_rv st h
section
variable {X:Cx}{tg:Expr}
def iRevT (K:PySem.W.Frag) (ta:TA):TI:=fun σ H R=>ta σ H fun vs H1=>∃ a xs,vs=[.ref a]/\SqT K H1 a xs/\R (Itv K a xs) H1
theorem pi_revT {a:Expr}{ta:TA}{p pos:Pos}(hg:Gl X "reversed") (hm:X.mg "reversed"=none) (ha:PA X [a] ta) (hs:starEach [a] X.env=[(false,eval a X.env)]:=by rfl):PI X tg (.Call (.Name "reversed" p) [a] [] pos) (iRevT X.K ta):=by
  intro pins s σ H R I h
  refine Call_ (ld_blt I hg hm bt_reversed (PyProof.Rows.callWith_type1 (thn (ha pos pins s σ H _ I h) fun us s1 ⟨vs,H1,I1,r1,q1⟩=>?_) hs rfl))
  obtain ⟨b,xs,e,hq,q⟩:=q1
  subst e
  obtain ⟨u,rfl,ru⟩:=vals1 r1
  cases ru
  obtain ⟨its,rv,pl,hz⟩:=I1.tuple hq
  have hl:=rv.length
  have hn:=line63
  refine call_rv pl (by simp only [List.size_toArray];omega) fun tk=>?_
  have e3:(((its.toArray).size:Nat):Int) - 1=(xs.length:Int) - 1 - ((0:Nat):Int):=by simp only [List.size_toArray];omega
  rw [e3]
  have I2:Inv X pins σ H1 { s1 with heap:=s1.heap.push (rvObj b ((xs.length:Int) - 1 - ((0:Nat):Int))),toks:=tk }:=I1.kept fun b o e=>Heap.get?_push_of_some _ e
  refine iter_rv (s:={ s1 with heap:=s1.heap.push (rvObj b ((xs.length:Int) - 1 - ((0:Nat):Int))),toks:=tk }) (t:=b) (i:=(xs.length:Int) - 1 - ((0:Nat):Int)) (Heap.get?_push_size _ rfl) ?_
  refine ⟨s1.heap.objs.size,[s1.heap.objs.size],_,_,H1,rfl,I2,turn_rv b _ xs,Heap.get?_push_size _ rfl,fun c hc=>?_,q⟩
  have e:c=s1.heap.objs.size:=by simpa using hc
  subst e
  exact I1.fpOk (Nat.le_refl _) (I1.hok.fresh (Nat.le_refl _))
end
theorem for_rev {K:PySem.W.Frag}{a:Addr}{xs:List V}{g:TG}{tb:TS}{D:Ends}{σ:L2.St}{H:Hp}(Pv:Nat->L2.St->Hp->Prop) (h0:Pv 0 σ H) (hl:∀ i σ H,i<=xs.length->Pv i σ H->SqT K H a xs)
    (hs:∀ i x σ H,xs.reverse[i]?=some x->Pv i σ H->g x σ H fun σ2 H2=>tb { D with nx:=Pv (i+1),ct:=Pv (i+1),bk:=D.nx } σ2 H2) (hd:∀ σ H,Pv xs.length σ H->D.nx σ H) :
    ∃ W:Nat->Nat->L2.St->Hp->Prop,(∃ m,W 0 m σ H)/\∀ i m σ H,W i m σ H ->
      ((Itv K a xs).stop i H/\D.nx σ H)\/((Itv K a xs).go i H/\∃ N:L2.St->Hp->Prop,(∀ σ' H',N σ' H'->∃ m',m'<m/\W (i+1) m' σ' H')/\∀ x H',(Itv K a xs).yld i H x H'->g x σ H' fun σ2 H2=>tb { D with nx:=N,ct:=N,bk:=D.nx } σ2 H2):=by
  refine ⟨fun i m σ H=>m=xs.length - i/\i<=xs.length/\Pv i σ H,⟨xs.length,by simp,Nat.zero_le _,h0⟩,?_⟩
  rintro i m σ H ⟨rfl,hi,p⟩
  by_cases c:i=xs.length
  · subst c
    exact .inl ⟨rfl,hd σ H p⟩
  · have hlt:i<xs.length:=by omega
    refine .inr ⟨⟨hl i σ H hi p,hlt⟩,Pv (i+1),fun σ' H' k=>⟨xs.length - (i+1),by omega,rfl,by omega,k⟩,?_⟩
    rintro x H' ⟨rfl,hx⟩
    exact hs i x σ H' hx p
end BF
namespace BF
open PySem PySem.Spec PyProof.Rows L2
def Mtd (P:Program) (w:World) (K:PySem.W.Frag) (mg:Str->Option Value) (base:Heap) (k:Nat) (C:Addr) (m:Str) (ps:List Str) (sp:Sp):Prop :=
  ∃ (f:Addr) (fd:FuncData),FnOk P w K mg base CX0 k f fd ps sp/\Binds K fd ps []/\Meth K C m f/\Cls K C
def New (P:Program) (w:World) (K:PySem.W.Frag) (mg:Str->Option Value) (base:Heap) (k:Nat) (C:Addr) (x:Str) (ps:List Str) (sp:Sp):Prop :=
  ∃ (f:Addr) (fd:FuncData),Mk K C f/\FnOk P w K mg base CX0 k f fd ps sp/\Binds K fd ps []/\mg x=some (.ref C)
section
variable {X:Cx}{k:Nat}{x m:Str}{ps:List Str}{sp:Sp}{p pos apos:Pos}{o e:Expr}{es:List Expr}{t:TA}{ta:TE}{C:Addr}
theorem pe_mt {pl:Sem Bool}(M:Mtd X.prog X.w X.K X.mg X.base k C m ps sp) (hr:Room k X.A) (he:PE X o ta) (ha:PA X (e::es) t)
    (hst:starEach (e::es) X.env=(false,eval e X.env)::starEach es X.env:=by rfl) (hpl:(backTo pos (starEach es X.env)).any (·.1)=false:=by rfl)
    (ht:eval (.Call (.Attribute o m apos) (e::es) [] pos) X.env=(do
      let ov <- eval o X.env
      standAt apos.atName
      let (f,first) <- holding [ov] (getMethod ov m pl)
      callWith pos f first (backTo pos (starEach (e::es) X.env)) (backToKw pos (keywordEach [] X.env))):=by rfl) :
    PE X (.Call (.Attribute o m apos) (e::es) [] pos) (tMeth C m sp [] E0 ta t):=by
  obtain ⟨f,fd,F,b,mm,c⟩:=M
  exact pe_meth (pl:=pl) he c mm F hr b .nil pass0 ha hst hpl ht
theorem pe_mt0 {pl:Sem Bool}(M:Mtd X.prog X.w X.K X.mg X.base k C m ps sp) (hr:Room k X.A) (he:PE X o ta)
    (ht:eval (.Call (.Attribute o m apos) [] [] pos) X.env=(do
      let ov <- eval o X.env
      standAt apos.atName
      let (f,first) <- holding [ov] (getMethod ov m pl)
      callWith pos f first (backTo pos (starEach [] X.env)) (backToKw pos (keywordEach [] X.env))):=by rfl) :
    PE X (.Call (.Attribute o m apos) [] [] pos) (tMeth C m sp [] E0 ta tNil):=by
  obtain ⟨f,fd,F,b,mm,c⟩:=M
  exact pe_meth0 (pl:=pl) he c mm F hr b .nil pass0 ht
theorem pe_new (N:New X.prog X.w X.K X.mg X.base k C x ps sp) (hr:Room (k+1) X.A) (ha:PA X (e::es) t) (hg:Gl X x:=by rfl) (hdb:(x==("__debug__":Str))=false:=by decide)
    (he:starEach (e::es) X.env=(false,eval e X.env)::starEach es X.env:=by rfl) (hpl:(backTo pos (starEach es X.env)).any (·.1)=false:=by rfl) :
    PE X (.Call (.Name x p) (e::es) [] pos) (tMake C sp [] E0 t):=by
  obtain ⟨f,fd,M,F,b,mg⟩:=N
  exact pe_make M F hr hg mg b .nil pass0 ha hdb he hpl
end
def PcAt (H:Hp) (v:V):Pc->Prop
  | .sg x=>v=.str x
  | .tm u=>TermAt H v u
def PcOk:Pc->Prop
  | .sg x=>x.cps.toList.length<=1
  | .tm u=>u.Ok
def PcsAt (H:Hp) (vs:List V) (l:List Pc):Prop:=Paired (PcAt H) vs l
theorem PcsAt.len {H:Hp}{vs:List V}{l:List Pc}(h:PcsAt H vs l):vs.length=l.length:=Paired.length h
theorem PcsAt.mono {H H':Hp}{vs:List V}{l:List Pc}(k:TSame H H') (h:PcsAt H vs l):PcsAt H' vs l :=
  Paired.imp' (fun v p hp=>by
    cases p with
    | sg x=>exact hp
    | tm u=>exact TermAt.mono k hp) h
theorem PcsAt.app {H:Hp}:∀ {vs us:List V}{l m:List Pc},PcsAt H vs l->PcsAt H us m->PcsAt H (vs++us) (l++m)
  | _,_,_,_,.nil,h=>h
  | _,_,_,_,.cons a b,h=>.cons a (PcsAt.app b h)
theorem PcsAt.snoc {H:Hp}:∀ {vs:List V}{v:V}{l:List Pc}{p:Pc},PcsAt H (vs++[v]) (l++[p])->PcsAt H vs l/\PcAt H v p
  | [],v,[],p,h=>by
    cases h with
    | cons a b=>exact ⟨.nil,a⟩
  | [],v,q::l,p,h=>by
    have:=h.len;simp at this
  | u::vs,v,[],p,h=>by
    have:=h.len;simp at this
  | u::vs,v,q::l,p,h=>by
    cases h with
    | cons a b=>obtain ⟨h1,h2⟩:=PcsAt.snoc b;exact ⟨.cons a h1,h2⟩
theorem snoc_of {α:Type}{l:List α}(h:l≠[]):∃ l0 x,l=l0++[x]:=⟨l.dropLast,l.getLast h,(List.dropLast_concat_getLast h).symm⟩
end BF
namespace BF
open PySem
def figs (m:Nat):List Nat:=(Nat.toDigits 10 m).map Char.toNat
theorem figs_all (m:Nat):NumText.AllDigits (figs m):=by
  intro c hc
  obtain ⟨ch,hch,e⟩:=List.mem_map.mp hc
  have r:=PyProof.Rows.digit_range (Nat.isDigit_of_mem_toDigits (by decide) (by decide) hch)
  rw [<- e]
  exact r
theorem figs_ne (m:Nat):figs m≠[]:=by
  intro e
  have h:=PySem.toDigits_len_ge 10 m
  rw [List.map_eq_nil_iff.mp e] at h
  exact absurd h (by decide)
theorem figs_snoc {m:Nat}(h:10<=m):figs m=figs (m / 10)++[(Nat.digitChar (m % 10)).toNat]:=by
  have hm:m % 10<10:=Nat.mod_lt m (by decide)
  have t:Nat.toDigits 10 (m / 10)++Nat.toDigits 10 (m % 10)=Nat.toDigits 10 (10 * (m / 10)+m % 10):=Nat.toDigits_append_toDigits (by decide) (by omega) hm
  rw [Nat.div_add_mod] at t
  unfold figs
  rw [<- t,List.map_append,Nat.toDigits_of_lt_base hm]
  rfl
theorem figs_one {m:Nat}(h:m<10):figs m=[48+m]:=by
  unfold figs
  rw [Nat.toDigits_of_lt_base h]
  have:∀ d:Nat,d<10->(Nat.digitChar d).toNat=48+d:=by decide
  simp [this m h]
theorem figs_nought:∀ (m:Nat) (r:List Nat),figs m=48::r->m=0:=by
  intro m
  induction m using Nat.strongRecOn with
  | _ m ih =>
    intro r e
    by_cases h:m<10
    · rw [figs_one h] at e
      have:=(List.cons.inj e).1
      omega
    · rw [figs_snoc (by omega)] at e
      cases hf:figs (m / 10) with
      | nil=>exact absurd hf (figs_ne _)
      | cons c cs =>
        rw [hf] at e
        have hc:c=48:=(List.cons.inj e).1
        have:=ih (m / 10) (by omega) cs (by rw [hf,hc])
        omega
theorem figs_len {m k:Nat}(hk:1<=k) (h:m<10 ^ k):(figs m).length<=k:=by
  unfold figs
  rw [zLM]
  exact PyProof.Rows.digits10_le hk h
theorem figs_val (m:Nat):NumText.digitsVal (figs m)=m:=PySem.W.KIN.val_back m
theorem numS_nn (m:Nat):numS (m:Int)=figs m:=PySem.W.KIN.signs_num m
theorem numS_neg (m:Nat):numS (Int.negSucc m)=45::figs (m+1):=by
  unfold numS
  rw [PyProof.Rows.signs_ofString]
  show ("-"++Nat.repr (m+1)).toList.map Char.toNat=_
  rw [String.toList_append,List.map_append,Nat.toList_repr]
  rfl
end BF
namespace BF
open PySem PySem.Spec PyProof.Rows L2
theorem big {n:Nat}(h:n<=16000000):n<sizeLine:=Nat.lt_of_le_of_lt h (by decide)
theorem small {n:Nat}(h:n<=16000000):n<=sizeLine:=Nat.le_of_lt (big h)
def flat (xs:List Str):List Nat:=xs.flatMap fun x=>x.cps.toList
theorem flat_snoc (xs:List Str) (z:Str):flat (xs++[z])=flat xs++z.cps.toList:=by simp [flat]
theorem flat_len (xs:List Str):(flat xs).length=(xs.map (·.length)).sum:=by
  induction xs with
  | nil=>rfl
  | cons x r ih=>simp only [flat,List.flatMap_cons,zLA,List.map_cons,List.sum_cons] at *;rw [ih,len_cps]
theorem join_flat (xs:List Str):(Txt.join "" xs).cps.toList=flat xs:=by
  have e:Txt.join "" xs=Str.join "" xs:=eq_of_beq (join_plain_closes _ _)
  rw [e]
  have e0:(Str.ofString "").cps.toList=[]:=by decide +kernel
  induction xs with
  | nil=>rfl
  | cons x r ih =>
    cases r with
    | nil=>simp [Str.join,flat]
    | cons y r =>
      have:Str.join "" (x::y::r)=x++""++Str.join "" (y::r):=rfl
      rw [this,cps_append,cps_append,e0,ih (eq_of_beq (join_plain_closes _ _))]
      simp [flat]
theorem num_small {n:Int}(h:(Tm.num n).Ok):n.natAbs.log2<1920:=by
  simp only [Tm.Ok] at h
  have h1:n.natAbs<=10 ^ 61:=by
    have:((10 ^ 61:Nat):Int)=10 ^ 61:=by norm_cast
    omega
  by_cases h0:n.natAbs=0
  · rw [h0];decide
  · rw [Nat.log2_lt h0]
    exact Nat.lt_of_le_of_lt h1 (by decide +kernel)
theorem numS_len {n:Int}(h:(Tm.num n).Ok):(numS n).length<=63:=by
  simp only [Tm.Ok] at h
  have c:((10 ^ 61:Nat):Int)=10 ^ 61:=by norm_cast
  cases n with
  | ofNat m =>
    have := figs_len (m := m) (k := 62) (by decide) (by have:(Int.ofNat m)<=10 ^ 61:=h.2;have e:(Int.ofNat m)=(m:Int):=rfl;have:m<=10 ^ 61:=by omega
                                                        exact Nat.lt_of_le_of_lt this (by decide +kernel))
    rw [show (Int.ofNat m)=(m:Int) from rfl,numS_nn];omega
  | negSucc m =>
    have := figs_len (m := m + 1) (k := 62) (by decide) (by have:m+1<=10 ^ 61:=by omega
                                                            exact Nat.lt_of_le_of_lt this (by decide +kernel))
    rw [numS_neg,zLC];omega
theorem tailL_len {n:Nat}:∀ {l:List Tm},(∀ t∈l,t.line.length+1<=70 * t.nodes)->(tailL l).length<=70 * nodesL l
  | [],_=>by simp [tailL,nodesL]
  | t::r,h=>by
    have h1:=h t (by simp)
    have h2:=tailL_len (n:=n) (l:=r) fun u hu=>h u (by simp [hu])
    simp only [tailL,nodesL,zLC,zLA]
    omega
theorem Tm.line_len (t:Tm):t.Ok->t.line.length+1<=70 * t.nodes:=by
  induction t using Tm.ind with
  | h1 n=>intro h;have:=numS_len h;simp only [Tm.line,Tm.nodes];omega
  | h2 w=>intro h;simp only [Tm.Ok] at h;have:=h.2.1;simp only [Tm.line,Tm.nodes];omega
  | h3 w=>intro h;simp only [Tm.Ok] at h;have:=h.2.1;simp only [Tm.line,Tm.nodes,zLC];omega
  | h4 w ps ih =>
    intro h
    simp only [Tm.Ok] at h
    obtain ⟨hw,hne,hok⟩:=h
    rw [okL_iff] at hok
    have:=hw.2.1
    cases ps with
    | nil=>exact absurd rfl hne
    | cons p r =>
      have h1:=ih p (by simp) (hok p (by simp))
      have h2:=tailL_len (n:=0) (l:=r) fun u hu=>ih u (by simp [hu]) (hok u (by simp [hu]))
      simp only [Tm.line,Tm.nodes,nodesL,lineL,zLA,zLC,zLN]
      omega
theorem pushed_ok {t:Tm}{ts:List Tm}(h:OkL (t::ts)):∀ c∈pushed t ts,PcOk c:=by
  rw [okL_iff] at h
  intro c hc
  unfold pushed commas at hc
  simp only [List.mem_append,List.mem_cons,List.not_mem_nil,or_false,List.mem_flatMap,List.mem_reverse] at hc
  rcases hc with (rfl | ⟨u,hu,rfl | rfl⟩) | rfl
  · simp [PcOk,close_cps]
  · exact h u (by simp [hu])
  · simp [PcOk,comma_cps]
  · exact h t (by simp)
end BF
namespace BF
open PySem PySem.Spec PyProof.Rows L2
section
variable {X:Cx}{x:Str}{p pos:Pos}{e:Expr}{es:List Expr}{t:TA}{id T:String}{r:List V->Hp->VK->Prop}
theorem pe_blt (hc:CallR X (.builtin id) r) (hm:X.mg x=none) (hv:bootBuiltins x=some (.builtin id)) (ha:PA X (e::es) t) (hg:Gl X x:=by rfl) (hn:x≠"__name__":=by decide) (hdb:(x==("__debug__":Str))=false:=by decide)
    (he:starEach (e::es) X.env=(false,eval e X.env)::starEach es X.env:=by rfl) (hpl:(backTo pos (starEach es X.env)).any (·.1)=false:=by rfl):PE X (.Call (.Name x p) (e::es) [] pos) (tCB r t):=pe_callB hc hg hm hv ha hn hdb he hpl
theorem pe_bty (hc:CallR X (.type T) r) (hm:X.mg x=none) (hv:bootBuiltins x=some (.type T)) (ha:PA X (e::es) t) (hg:Gl X x:=by rfl) (hn:x≠"__name__":=by decide) (hdb:(x==("__debug__":Str))=false:=by decide)
    (he:starEach (e::es) X.env=(false,eval e X.env)::starEach es X.env:=by rfl) (hpl:(backTo pos (starEach es X.env)).any (·.1)=false:=by rfl):PE X (.Call (.Name x p) (e::es) [] pos) (tCB r t):=pe_callTy hc hg hm hv ha hn hdb he hpl
theorem pe_tyn (hm:X.mg x=none) (hv:bootBuiltins x=some (.type T)) (hg:Gl X x:=by rfl) (hn:x≠"__name__":=by decide) (hdb:(x==("__debug__":Str))=false:=by decide):PE X (.Name x pos) (tC (.ty T)):=pe_bltn hg hm hv rfl hn hdb
end
end BF
namespace BF
open PySem PySem.Spec PyProof.Rows L2
section
variable {P:Program}{w:World}{K:PySem.W.Frag}{mg:Str->Option Value}{base:Heap}{N:List Str}{qual:Str}{scope:Scope}{f:Addr}{cd:Value}{A:Around}{outer:List Env}{s0:Shared}{H0:Hp}{E:XK}
end
section
variable {X:Cx}{x:Str}{C:Addr}{np cpos pos:Pos}{e:Expr}{es:List Expr}{t:TA}{B newId initId:String}{bmB:List Value}
end
end BF
namespace BF
open PySem PySem.Spec PyProof.Rows L2
section
variable {X:Cx}{pins:List (Addr×Obj)}{σ:L2.St}{H:Hp}{s:Shared}{ea T:Addr}{cls fl:Value}
end
end BF
namespace BF
open PySem PySem.Spec PyProof.Rows L2
section
variable {X:Cx}{pins:List (Addr×Obj)}{σ:L2.St}{H:Hp}{s:Shared}{ea T:Addr}{cls fl:Value}{oe:Obj}
variable {C CX:Addr}{x:Str}{np hpos:Pos}{b₀:Stmt}{suite:List Stmt}{D:Ends}{L:Addr}
end
section
variable {X:Cx}{k:Nat}{f:Addr}{fd:FuncData}{ps:List Str}{sp:Sp}{dvs:List V}{ds:List Value}{x:Str}{p pos hpos tpos np:Pos}{e:Expr}{es:List Expr}{t:TA}
variable {st b₀:Stmt}{suite:List Stmt}{tb:Ends->(Addr->Hp->Prop)->L2.St->Hp->Prop}{C CX L:Addr}
end
end BF
namespace BF
open PySem PySem.Spec PyProof.Rows L2 PySem.W
section
variable {prog:Program}{w:World}{A:Around}{E:Value->Shared->Prop}{h:Heap}{g:Array GenState}{d:Drawn}{t:Nat}{os:OsState}{a C:Addr}{o:Obj}{vs:Array Value}{K:Frag}
end
section
variable {X:Cx}{ea C:Addr}{oe:Obj}
end
end BF
namespace BF
open PySem PySem.Spec PyProof.Rows L2
open Sem (wp)
theorem paired_of:∀ {xs:List V}{us:List Value},xs.length=us.length->(∀ (i:Nat) x u,xs[i]?=some x->us[i]?=some u->RelV x u)->Vals xs us
  | [],[],_,_=>.nil
  | x::xs,u::us,hl,h=>.cons (h 0 x u rfl rfl) (paired_of (by simpa using hl) fun i a b e1 e2=>h (i+1) a b (by simpa using e1) (by simpa using e2))
  | [],_::_,hl,_=>by simp at hl
  | _::_,[],hl,_=>by simp at hl
structure ItSrc (prog:Program) (w:World) (T:String) (I d:Addr) (n:Nat) (P:Nat->Value->Prop) (St:Nat->Heap->Prop):Prop where
  W:∀ A:Around,A.handled=none->Walks prog w A I [I,d] [I] n P St
  ty:∀ s:Shared,St 0 s.heap->s.TypeIs (.ref I) T
  nl:(Value.type T==Value.type "list")=false
  nt:(Value.type T==Value.type "tuple")=false
  hint:∀ (A:Around) (E:Value->Shared->Prop) (s:Shared) (Q:Bool->Shared->Prop),St 0 s.heap->(∀ b tk,Q b { s with toks:=tk })->wpAny (model prog w) A (Builtin.List.listLengthHint (.ref I)) Q E s
section
variable {prog:Program}{w:World}{A:Around}{E:Value->Shared->Prop}{s:Shared}{T:String}{I d:Addr}{n:Nat}{P:Nat->Value->Prop}{St:Nat->Heap->Prop}
theorem it_ext {R:Result->Shared->Prop}(Z:ItSrc prog w T I d n P St) (hh:A.handled=none) (st:St 0 s.heap) (S:Addr) (n1:S≠I) (n2:S≠d) (c₀:Nat) (hS:s.heap.get? S=some { cls:=.type "list",data:=.seq #[] c₀ })
    (hR:∀ h' tk acc' c',(∀ b o,b≠S->b≠I->s.heap.get? b=some o->h'.get? b=some o)->h'.get? S=some { cls:=.type "list",dict:=none,data:=.seq acc' c',slots:=#[] }->ItemsOf P acc' n->R (.ok (.ret .none)) { s with heap:=h',toks:=tk }) (hn:n<=sizeLine) :
    wpAny (model prog w) A.in1 (Builtin.List.listExtendWith (.ref S) (.ref I) .none) (fun fin s'=>match fin with | .done f=>R (.ok f) s' | .again c'=>c'.quiet=true/\codeAny (model prog w) A c' R s') (fun e s'=>R (.error e) s') s:=by
  have nf:S∉[I,d]:=by simp [n1,n2]
  have W:=Z.W A.in1 hh
  have key:∀ (h:Heap) (c₁ tk:Nat),St 0 h->(∀ b o,b≠S->s.heap.get? b=some o->h.get? b=some o)->h.get? S=some { cls:=.type "list",data:=.seq #[] c₁ } ->
      codeAny (model prog w) A (.builtin "list.extend.loop" ⟨[.ref S,.ref I,.none],[]⟩) R { s with heap:=h,toks:=tk }:=fun h c₁ tk hst hk h1=>by
    refine codeAny_extend_loopS W.toS hn S nf .none n 0 _ #[] c₁ rfl (Nat.zero_le _) hst h1 (ItemsOf.nil _) fun s' acc' c' hm h2 hacc=>?_
    rw [Moved.eq_with hm]
    refine hR s'.heap s'.toks acc' c' (fun b o hb hbI e=>hm.heap b o (fun z=>?_) (hk b o hb e)) h2 hacc
    rcases List.mem_cons.mp z with z | z
    · exact hb z
    · exact hbI (by simpa using z)
  unfold Builtin.List.listExtendWith
  refine wpAny_bind (wpAny_typeOf (T:=T) (Z.ty s st) ?_)
  have g1:Builtin.List.listSameRef (.ref S) (.ref I)=false:=by simp [Builtin.List.listSameRef,n1]
  simp only [g1,Z.nl,Z.nt,Bool.or_false,Bool.false_eq_true,if_false]
  refine wpAny_bind (W.self 0 _ _ _ st ?_)
  refine wpAny_bind (wpAny_holding (Z.hint _ _ _ _ st fun b tk=>?_))
  refine wpAny_ite_split (fun _=>?_) (fun _=>wpAny_pure ⟨plainId_quiet PySem.F.plain_extend_loop _,key _ c₀ tk st (fun _ _ _ e=>e) hS⟩)
  refine wpAny_bind (wpAny_rule (wpAny_bind ?_))
  show wpAny _ _ (updateSeq S (·.push .none) >>= fun _=>updateSeq S (·.pop)) _ _ _
  refine wpAny_bind (wpAny_updateSeq (s:={ s with toks:=tk }) hS rfl ?_)
  have g2:=Heap.get?_update_self (Obj.mapSeq (·.push Value.none)) hS rfl
  refine wpAny_updateSeq (hz:=by seq_fits) g2 rfl ?_
  have g3:=Heap.get?_update_self (Obj.mapSeq (·.pop)) g2 rfl
  have oth:∀ b o,b≠S->s.heap.get? b=some o->((s.heap.update S (Obj.mapSeq (·.push Value.none))).update S (Obj.mapSeq (·.pop))).get? b=some o :=
    fun b o hb e=>by rw [Heap.get?_update_other _ _ (Ne.symm hb),Heap.get?_update_other _ _ (Ne.symm hb)];exact e
  exact wpAny_pure ⟨plainId_quiet PySem.F.plain_extend_loop _,key _ _ tk (W.frame 0 _ _ st fun b hb o e=>oth b o (fun z=>nf (z▸hb)) e) (fun b o hb e=>oth b o hb e) g3⟩
theorem it_list {Q:Value->Shared->Prop}(Z:ItSrc prog w T I d n P St) (hh:A.handled=none) (st:St 0 s.heap) (h1:I<s.heap.objs.size) (h2:d<s.heap.objs.size) (hn:n<=sizeLine)
    (hQ:∀ h' tk acc' c',(∀ b o,b≠I->s.heap.get? b=some o->h'.get? b=some o)->h'.get? s.heap.objs.size=some { cls:=.type "list",dict:=none,data:=.seq acc' c',slots:=#[] }->ItemsOf P acc' n->Q (.ref s.heap.objs.size) { s with heap:=h',toks:=tk }) :
    wpAny (model prog w) A (call (.type "list") [.ref I]) Q E s:=by
  refine callType_codes (Q₁:=fun obj s₁=>obj=.ref s.heap.objs.size/\s₁={ s with heap:=s.heap.push { cls:=.type "list",data:=.seq #[] } }) PySem.F.called_list (PySem.F.typeCall_list_1 _) PySem.F.entry_list_init (code_list_new _ ⟨rfl,rfl⟩) fun obj s₁ g=>?_
  obtain ⟨rfl,rfl⟩:=g
  have hS:(s.heap.push { cls:=.type "list",data:=.seq #[] }).get? s.heap.objs.size=some { cls:=.type "list",data:=.seq #[] }:=Heap.get?_push_size _ rfl
  refine ⟨⟨_,hS,rfl⟩,PySem.F.args_list_init_2 _ _,?_⟩
  show wpAny _ _ (do let old <- Builtin.List.listItems (.ref s.heap.objs.size);Builtin.List.listUpdate (.ref s.heap.objs.size) (fun _=>#[]);letGo old.toList.reverse;Builtin.List.listExtendWith (.ref s.heap.objs.size) (.ref I) .none) _ _ _
  refine wpAny_bind ?_
  unfold Builtin.List.listItems
  refine wpAny_bind (wpAny_seqItems hS rfl (wpAny_pure ?_))
  show wpAny _ _ (updateSeq s.heap.objs.size (fun _=>#[]) >>= fun _=>letGo (#[]:Array Value).toList.reverse >>= fun _=>Builtin.List.listExtendWith (.ref s.heap.objs.size) (.ref I) .none) _ _ _
  refine wpAny_bind (wpAny_updateSeq hS rfl ?_)
  have g2:=Heap.get?_update_self (Obj.mapSeq (fun _=>(#[]:Array Value))) hS rfl
  have oth:∀ b o,s.heap.get? b=some o->((s.heap.push { cls:=.type "list",data:=.seq #[] }).update s.heap.objs.size (Obj.mapSeq (fun _=>(#[]:Array Value)))).get? b=some o :=
    fun b o e=>by rw [Heap.get?_update_other _ _ (Nat.ne_of_gt (Heap.lt_size e))];exact Heap.get?_push_of_some _ e
  refine wpAny_bind (wpAny_letGo ?_)
  refine it_ext (A:=A.in1) Z hh ((Z.W A hh).frame 0 _ _ st fun b _ o e=>oth b o e) _ (Nat.ne_of_gt h1) (Nat.ne_of_gt h2) _ g2 (fun h' tk acc' c' hk hS' hacc=>?_) hn
  exact ⟨rfl,hQ h' tk acc' c' (fun b o hb e=>hk b o (Nat.ne_of_lt (Heap.lt_size e)) hb (oth b o e)) hS' hacc⟩
end
namespace RV
theorem lri_len:typeLookup (.type "list_reverseiterator") "__len__"=pure none:=by rw [typeLookup_type,builtinLookup_eq_fast];kernel_rfl
theorem lri_hint:typeLookup (.type "list_reverseiterator") "__length_hint__"=pure (some (.builtin "list_reverseiterator.__length_hint__")):=by rw [typeLookup_type,builtinLookup_eq_fast];kernel_rfl
theorem rev_len:typeLookup (.type "reversed") "__len__"=pure none:=by rw [typeLookup_type,builtinLookup_eq_fast];kernel_rfl
theorem slot_hint:Slot "reversed" "__length_hint__" "reversed.__length_hint__" :=
  .of (owner:="reversed") (n:="__length_hint__") (by rw [typeLookup_type,builtinLookup_eq_fast];kernel_rfl) (by decide +kernel) (by decide +kernel) (by decide +kernel)
    (by first | exact .inl (by decide +kernel) | exact .inr (by decide +kernel)) (by rw [isSubtype_type];kernel_rfl)
theorem entry_hint:entryFor table "reversed.__length_hint__"=some Builtin.«reversed.__length_hint__»:=entryFor_of_tree (by kernel_rfl)
theorem args_hint (a:Value):argsOk "reversed.__length_hint__" ⟨[a],[]⟩:=by
  unfold argsOk;rw [signature?_of (id:="reversed.__length_hint__") (n:=['_','_','t','n','i','h','_','h','t','g','n','e','l','_','_']) (o:=['d','e','s','r','e','v','e','r']) (by kernel_rfl) owner_rev];kernel_rfl
end RV
section
variable {prog:Program}{w:World}
theorem src_lri (I l:Addr) (hne:l≠I) (items:Array Value):ItSrc prog w "list_reverseiterator" I l items.size (fun i v=>items[items.size - 1 - i]?=some v) (fun i h=>i<=items.size/\h.IsRevIter I l ((items.size:Int) - 1 - (i:Int))/\h.IsList l items) where
  W:=fun A hh=>Walks.listRev hh I l hne items
  ty:=fun s st=>st.2.1.typeIs
  nl:=by decide
  nt:=by decide
  hint:=fun A E s Q st hQ=>by
    have hT:=st.2.1.typeIs
    unfold Builtin.List.listLengthHint
    refine wpAny_bind (wpAny_specialOf hT RV.lri_len ?_)
    show wpAny _ _ (specialOf (Value.ref I) (Str.ofString "__length_hint__") >>= _) _ _ _
    refine wpAny_bind (wpAny_specialOf hT RV.lri_hint ?_)
    generalize hid:("list_reverseiterator.__length_hint__":String)=id0
    wp_delta
    rw [show splitId id0=some ("list_reverseiterator","__length_hint__") from by subst hid;decide +kernel]
    subst hid
    refine wpAny_bind (wpAny_isInstance (T:="list_reverseiterator") (b:=true) hT (by rw [isSubtype_type];kernel_rfl) ?_)
    refine wpAny_ite_split (fun hab=>absurd hab (by decide)) (fun _=>?_)
    refine wpAny_ite_split (fun _=>?_) (fun hab=>absurd (by decide +kernel) hab)
    refine wpAny_ite_split (fun hab=>absurd hab (by decide +kernel)) (fun _=>?_)
    exact wpAny_pure (hQ false s.toks)
end
end BF
namespace BF
open PySem PySem.Spec PyProof.Rows L2
open Sem (wp)
section
variable {prog:Program}{w:World}
theorem src_rv (I l:Addr) (hne:l≠I) (items:Array Value) (hz:items.size<=sizeLine):ItSrc prog w "reversed" I l items.size (fun i v=>items[items.size - 1 - i]?=some v) (fun i h=>i<=items.size/\h.get? I=some (rvObj l ((items.size:Int) - 1 - (i:Int)))/\IsTup h l items) where
  W := fun A hh=>{
    sub:=fun b hb=>by simp at hb;simp [hb]
    frame:=fun _ _ _ x hk=>⟨x.1,hk I (by simp) _ x.2.1,let ⟨o,ho,r⟩:=x.2.2;⟨o,hk l (by simp) o ho,r⟩⟩
    item:=fun i s Q E hi x hQ=>by
      have hn:=line63
      have e:(items.size:Int) - 1 - (i:Int)=((items.size - 1 - i:Nat):Int):=by omega
      have hit:=x.2.1
      rw [e] at hit
      have hx:items[items.size - 1 - i]?=some (items[items.size - 1 - i]'(by omega)):=Array.getElem?_eq_getElem (by omega)
      refine next_rv hit x.2.2 hx (by omega) fun h' tk hit' hs'=>?_
      have e2:((items.size - 1 - i:Nat):Int) - 1=(items.size:Int) - 1 - ((i+1:Nat):Int):=by omega
      rw [e2] at hit'
      exact hQ _ h' tk hx ⟨hi,hit',let ⟨o,ho,r⟩:=x.2.2;⟨o,(hs'.2 l hne).trans ho,r⟩⟩ fun b o hb eo=>(hs'.2 b fun h=>hb (by simp [h])).trans eo
    done:=fun s Q E x hQ=>by
      have e:(items.size:Int) - 1 - (items.size:Int) = -1:=by omega
      have hit:=x.2.1
      rw [e] at hit
      exact next_rv_end hh hit fun h' he'=>hQ h' s.toks fun b o hb eo=>he' b o (fun h=>hb (by simp [h])) eo
    self:=fun _ _ _ _ x hQ=>iter_rv x.2.1 hQ }
  ty:=fun s st=>⟨_,st.2.1,rfl⟩
  nl:=by decide
  nt:=by decide
  hint:=fun A E s Q st hQ=>by
    have hT:s.TypeIs (.ref I) "reversed":=⟨_,st.2.1,rfl⟩
    have hn:=line63
    unfold Builtin.List.listLengthHint
    refine wpAny_bind (wpAny_specialOf hT RV.rev_len ?_)
    show wpAny _ _ (specialOf (Value.ref I) (Str.ofString "__length_hint__") >>= _) _ _ _
    refine wpAny_bind (wpAny_specialOf hT RV.slot_hint.lookup ?_)
    generalize hid:("reversed.__length_hint__":String)=id0
    wp_delta
    rw [show splitId id0=some ("reversed","__length_hint__") from by subst hid;decide +kernel]
    subst hid
    refine wpAny_bind (wpAny_isInstance (T:="reversed") (b:=true) hT (by rw [isSubtype_type];kernel_rfl) ?_)
    refine wpAny_ite_split (fun hab=>absurd hab (by decide)) (fun _=>?_)
    refine wpAny_ite_split (fun hab=>absurd hab (by decide +kernel)) (fun _=>?_)
    refine wpAny_bind (wpAny_rule ?_)
    refine wpAny_bind (wpAny_of_eq (RV.slot_hint.bind (.ref I)) ?_)
    dsimp only
    refine wpAny_bind (wpAny_attempt (wpAny_call_entry RV.slot_hint hT RV.entry_hint ?_ (RV.args_hint _)))
    unfold Builtin.«reversed.__length_hint__»
    refine wpAny_bind (wpAny_of_eq (a:=Value.ref I) rfl ?_)
    refine wpAny_bind (wpAny_field st.2.1 rfl (x:=.ref l) rfl ?_)
    refine wpAny_ite_split (fun hab=>absurd hab (by simp)) (fun _=>?_)
    refine wpAny_bind (len_tuple st.2.2 (by omega) ?_)
    refine wpAny_bind (wpAny_of_eq (a:=some (items.size:Int)) (by first | rfl | simp [asInt?]) ?_)
    dsimp only
    refine wpAny_bind (wpAny_field (x:=rawInt ((items.size:Int) - 1 - ((0:Nat):Int))) st.2.1 rfl rfl ?_)
    show wpAny _ _ (if (items.size:Int)<((items.size:Int) - 1 - ((0:Nat):Int))+1 then _ else _) _ _ _
    rw [if_neg (by omega)]
    unfold retInt
    refine wpAny_bind (wpAny_mkInt (wpAny_pure ⟨_,rfl,?_⟩))
    dsimp only
    refine wpAny_bind (wpAny_of_eq (a:=some ((items.size:Int) - 1 - ((0:Nat):Int)+1)) (by first | rfl | simp [asInt?]) ?_)
    have e1:(items.size:Int) - 1 - ((0:Nat):Int)+1=(items.size:Int):=by omega
    rw [e1]
    dsimp only
    have f1:Builtin.List.listFitsIndex (items.size:Int)=true:=by
      unfold Builtin.List.listFitsIndex
      simp only [Bool.and_eq_true,decide_eq_true_eq]
      omega
    have f2:Builtin.List.listTooLong ((items.size:Int).toNat)=false:=by
      unfold Builtin.List.listTooLong
      simp only [decide_eq_false_iff_not]
      omega
    rw [f1,f2]
    refine wpAny_ite_split (fun hab=>absurd hab (by decide)) (fun _=>?_)
    refine wpAny_ite_split (fun hab=>absurd hab (by omega)) (fun _=>?_)
    refine wpAny_ite_split (fun hab=>absurd hab (by decide)) (fun _=>?_)
    exact wpAny_pure (hQ _ _)
end
theorem pair_get {α β:Type}{F:α->β->Prop}:∀ {l:List α}{m:List β}{i:Nat}{a:α},Paired F l m->l[i]?=some a->∃ b,m[i]?=some b/\F a b
  | _,_,_,_,.nil,e=>by simp at e
  | _,_,0,_,.cons r _,e=>by cases e;exact ⟨_,rfl,r⟩
  | _,_,i+1,_,.cons _ rr,e=>by simpa using pair_get (i:=i) rr (by simpa using e)
section
variable {X:Cx}{p p' pos pos':Pos}{e:Expr}{te:TE}
theorem key_rel {P:Program}{w:World}{k:Key}{v:Value}(h:(mixKind P w).is k v=true):RelV (kV k) v:=by
  rcases keyIs_shape h with ⟨i,t,rfl,rfl⟩ | ⟨x,t,rfl,rfl⟩
  · exact ⟨t,rfl⟩
  · exact ⟨t,rfl⟩
theorem call_list_dict (hc:X.calm=true):CallR X (.type "list") (fun xs H Q=>∃ q kvs,xs=[.ref q]/\H q=some (.dK kvs)/\∀ l,H l=none->Q (.ref l) (upd H l (.lst (kvs.map fun kv=>kV kv.1)))):=by
  intro pins s σ H xs us Q I r h
  obtain ⟨q,kvs,rfl,hq,h⟩:=h
  obtain ⟨u,rfl,ru⟩:=vals1 r
  cases ru
  obtain ⟨z,lo,vs,rel,hd⟩:=dk_of I.hok hq
  obtain ⟨ep,hat⟩:=hd.dictAt
  have hl:kvs.length=vs.length:=rel.length
  refine PySem.W.kdl_call (PySem.W.kdl_dict (knd:=mixKind X.prog X.w) (kvs:=vs) (ep:=ep) lo) (I.ok.hd hc) hat (by omega) fun h' tk acc' c' hk hS hacc=>?_
  have rr:Vals (kvs.map fun kv=>kV kv.1) acc'.toList:=by
    have hz:=hacc.1
    refine paired_of (by simp only [zLM,Array.length_toList];omega) fun i x u h1 h2=>?_
    obtain ⟨k,y,h3,h4⟩:=hacc.2 i u (by simpa using h2)
    rw [List.getElem?_map] at h1
    cases h5:kvs[i]? with
    | none=>rw [h5] at h1;cases h1
    | some kv =>
      rw [h5] at h1
      cases h1
      obtain ⟨kv',h6,h7,_⟩:=pair_get rel h5
      rw [h3] at h6
      cases h6
      have h7:kv.1=k:=h7
      show RelV (kV kv.1) u
      rw [h7]
      exact key_rel h4
  have z2:(kvs.map fun kv=>kV kv.1).length<=sizeLine:=by rw [zLM];exact z
  exact ⟨.ref s.heap.objs.size,_,I.laid (t':=tk) hk (Nat.le_refl _) (show ObjOk X.prog X.w _ h' _ (.lst (kvs.map fun kv=>kV kv.1)) from ⟨z2,acc'.toList,c',rr,hS⟩),rfl,h _ (I.hok.fresh (Nat.le_refl _))⟩
theorem pe_lsd {es:List Expr}{t:TA}(hm:X.mg "list"=none) (ha:PA X (e::es) t) (hc:X.calm=true:=by rfl) (hg:Gl X "list":=by rfl) (he:starEach (e::es) X.env=(false,eval e X.env)::starEach es X.env:=by rfl) (hpl:(backTo pos (starEach es X.env)).any (·.1)=false:=by rfl) :
    PE X (.Call (.Name "list" p) (e::es) [] pos) (tCB (fun xs H Q=>∃ q kvs,xs=[.ref q]/\H q=some (.dK kvs)/\∀ l,H l=none->Q (.ref l) (upd H l (.lst (kvs.map fun kv=>kV kv.1)))) t) :=
  pe_bty (call_list_dict hc) hm bt_list ha hg (by decide) (by decide) he hpl
theorem rev_fin {pins:List (Addr×Obj)}{σ:L2.St}{H:Hp}{s1:Shared}{xs:List V}{its:List Value}{oI:Obj}{tk0 tk:Nat}{h':Heap}{acc':Array Value}{c':Nat}{Q:VK}(I1:Inv X pins σ H s1) (rv:Vals xs its) (hz:xs.length<=sizeLine)
    (hk:∀ b o,b≠s1.heap.objs.size->(s1.heap.push oI).get? b=some o->h'.get? b=some o) (hS:h'.get? (s1.heap.push oI).objs.size=some { cls:=.type "list",dict:=none,data:=.seq acc' c',slots:=#[] })
    (hacc:ItemsOf (fun i v=>its.toArray[its.toArray.size - 1 - i]?=some v) acc' its.toArray.size) (q:∀ l,H l=none->Q (.ref l) (upd H l (.lst xs.reverse))) :
    EP X pins σ Q (.ref (s1.heap.push oI).objs.size) { s1 with heap:=h',toks:=tk }:=by
  have hl:=rv.length
  have h1:=hacc.1
  simp only [List.size_toArray] at h1
  have rr:Vals xs.reverse acc'.toList:=by
    refine paired_of (by simp only [List.length_reverse,Array.length_toList];omega) fun i x u e1 e2=>?_
    have hi:i<xs.length:=by
      have:=(List.getElem?_eq_some_iff.mp e1).1
      simpa using this
    have h3:=hacc.2 i u (by simpa using e2)
    simp only [List.size_toArray] at h3
    rw [List.getElem?_reverse hi] at e1
    obtain ⟨u',h5,h6⟩:=rv.get e1
    have e3:its.length - 1 - i=xs.length - 1 - i:=by omega
    rw [e3] at h3
    have h3':its[xs.length - 1 - i]?=some u:=by simpa using h3
    rw [h5] at h3'
    cases h3'
    exact h6
  have z2:xs.reverse.length<=sizeLine:=by simpa using hz
  have sz:s1.heap.objs.size<=(s1.heap.push oI).objs.size:=by simp [Heap.push]
  exact ⟨.ref _,_,I1.laid (a:=(s1.heap.push oI).objs.size) (t':=tk) (fun b o e=>hk b o (Nat.ne_of_lt (Heap.lt_size e)) (Heap.get?_push_of_some _ e)) sz (show ObjOk X.prog X.w _ h' _ (.lst xs.reverse) from ⟨z2,acc'.toList,c',rr,hS⟩),rfl,q _ (I1.hok.fresh sz)⟩
def tLRev (sq:Hp->Addr->List V->Prop) (te:TE):TE:=fun σ H Q=>te σ H fun v H1=>∃ a xs,v=.ref a/\sq H1 a xs/\∀ l,H1 l=none->Q (.ref l) (upd H1 l (.lst xs.reverse))
theorem pe_listrevL (hm:X.mg "list"=none) (hm':X.mg "reversed"=none) (h:PE X e te) (hc:X.calm=true:=by rfl) (hg:Gl X "list":=by rfl) (hg':Gl X "reversed":=by rfl)
    (h1:starEach [.Call (.Name "reversed" p') [e] [] pos'] X.env=[(false,eval (.Call (.Name "reversed" p') [e] [] pos') X.env)]:=by rfl) (h2:starEach [e] X.env=[(false,eval e X.env)]:=by rfl) :
    PE X (.Call (.Name "list" p) [.Call (.Name "reversed" p') [e] [] pos'] [] pos) (tLRev (SqL X.K) te):=by
  intro pins s σ H Q I hw
  refine Call_ (ld_blt I hg hm bt_list (PyProof.Rows.callWith_type1 ?_ h1 rfl))
  rw [h1]
  refine Calls.spliced_cons ?_
  refine Call_ (ld_blt I hg' hm' bt_reversed (PyProof.Rows.callWith_type1 ?_ h2 rfl))
  rw [h2]
  refine Calls.spliced_cons (thn (h pins s σ H _ I hw) fun u s1 ⟨x,H1,I1,r1,q1⟩=>Calls.spliced_nil ?_)
  obtain ⟨a,xs,rfl,hq,q⟩:=q1
  cases r1
  obtain ⟨its,rv,pl,hz⟩:=I1.list hq
  have hl:=rv.length
  refine call_reversed_list pl.isList (Calls.spliced_nil ?_)
  have ha:a<s1.heap.objs.size:=let ⟨o,ho,_⟩:=pl.isList;Heap.lt_size ho
  have e0:(its.toArray.size:Int) - 1=(its.toArray.size:Int) - 1 - ((0:Nat):Int):=by omega
  refine it_list (d:=a) (src_lri s1.heap.objs.size a (Nat.ne_of_lt ha) its.toArray) (I.ok.hd hc) (s:={ s1 with heap:=s1.heap.push (revObj a ((its.toArray.size:Int) - 1)) }) ⟨Nat.zero_le _,⟨_,Heap.get?_push_size _ rfl,rfl,by rw [<- e0];rfl⟩,?_⟩ (by simp [Heap.push]) (Nat.lt_trans ha (by simp [Heap.push])) (by simp only [List.size_toArray];omega) fun h' tk acc' c' hk hS hacc=>?_
  · obtain ⟨o,ho,r⟩:=pl.isList
    exact ⟨o,Heap.get?_push_of_some _ ho,r⟩
  · exact rev_fin (tk0:=0) I1 rv hz hk hS hacc q
theorem pe_listrevT (hm:X.mg "list"=none) (hm':X.mg "reversed"=none) (h:PE X e te) (hc:X.calm=true:=by rfl) (hg:Gl X "list":=by rfl) (hg':Gl X "reversed":=by rfl)
    (h1:starEach [.Call (.Name "reversed" p') [e] [] pos'] X.env=[(false,eval (.Call (.Name "reversed" p') [e] [] pos') X.env)]:=by rfl) (h2:starEach [e] X.env=[(false,eval e X.env)]:=by rfl) :
    PE X (.Call (.Name "list" p) [.Call (.Name "reversed" p') [e] [] pos'] [] pos) (tLRev (SqT X.K) te):=by
  intro pins s σ H Q I hw
  refine Call_ (ld_blt I hg hm bt_list (PyProof.Rows.callWith_type1 ?_ h1 rfl))
  rw [h1]
  refine Calls.spliced_cons ?_
  refine Call_ (ld_blt I hg' hm' bt_reversed (PyProof.Rows.callWith_type1 ?_ h2 rfl))
  rw [h2]
  refine Calls.spliced_cons (thn (h pins s σ H _ I hw) fun u s1 ⟨x,H1,I1,r1,q1⟩=>Calls.spliced_nil ?_)
  obtain ⟨a,xs,rfl,hq,q⟩:=q1
  cases r1
  obtain ⟨its,rv,pl,hz⟩:=I1.tuple hq
  have hl:=rv.length
  have hn:=line63
  refine call_rv pl (by simp only [List.size_toArray];omega) fun tk0=>Calls.spliced_nil ?_
  have ha:a<s1.heap.objs.size:=let ⟨o,ho,_⟩:=pl;Heap.lt_size ho
  have e0:(its.toArray.size:Int) - 1=(its.toArray.size:Int) - 1 - ((0:Nat):Int):=by omega
  refine it_list (d:=a) (src_rv s1.heap.objs.size a (Nat.ne_of_lt ha) its.toArray (by simp only [List.size_toArray];omega)) (I.ok.hd hc) (s:={ s1 with heap:=s1.heap.push (rvObj a ((its.toArray.size:Int) - 1)),toks:=tk0 }) ⟨Nat.zero_le _,(by rw [<- e0];exact Heap.get?_push_size _ rfl),?_⟩ (by simp [Heap.push]) (Nat.lt_trans ha (by simp [Heap.push])) (by simp only [List.size_toArray];omega) fun h' tk acc' c' hk hS hacc=>?_
  · obtain ⟨o,ho,r⟩:=pl
    exact ⟨o,Heap.get?_push_of_some _ ho,r⟩
  · exact rev_fin (tk0:=0) I1 rv hz hk hS hacc q
end
section
variable {P:Program}{w:World}{K:PySem.W.Frag}{mg:Str->Option Value}{base:Heap}
end
section
variable {X:Cx}{k:Nat}{x:Str}{ps:List Str}{sp:Sp}{p pos:Pos}{e:Expr}{es:List Expr}{t:TA}
end
end BF
namespace BF
open PySem L2
end BF
namespace BF
open PySem L2
theorem tSeq_cut {t u:TS}{D:Ends}{σ:L2.St}{H:Hp}(Pv:L2.St->Hp->Prop) (key:∀ σ' H',Pv σ' H'->u D σ' H') (main:(∀ σ' H',Pv σ' H'->u D σ' H')->t { D with nx:=u D } σ H):tSeq t u D σ H:=main key
end BF
namespace BF
open PySem PySem.Spec PyProof.Rows L2
open Sem (wp)
def closOf (env:Env):List (Str×NameKind)->List (Str×Addr)->List (Str×Addr)
  | [],cs=>cs
  | (n,k)::r,cs=>closOf env r (if (k==NameKind.free)=true then (match env.cells.lookup n with | some c=>(n,c)::cs | none=>cs) else cs)
theorem closOf_eq (env:Env) (scope:Scope) (h:∀ y∈scope.names,y.2=.free->∃ c,env.cells.lookup y.1=some c):closureFor scope env=pure (closOf env scope.names []):=by
  unfold closureFor
  have key:∀ (l:List (Str×NameKind)) (cs:List (Str×Addr)),(∀ y∈l,y.2=.free->∃ c,env.cells.lookup y.1=some c) ->
      (forIn l cs fun x r=>match x with | (name,kind)=>if (kind==NameKind.free)=true then (do let a <- cellOf env name;pure (ForInStep.yield ((name,a)::r))) else pure (ForInStep.yield r):Sem (List (Str×Addr)))=pure (closOf env l cs):=by
    intro l
    induction l with
    | nil=>intro cs _;rfl
    | cons y r ih =>
      intro cs hl
      obtain ⟨n,k⟩:=y
      rw [List.forIn_cons]
      by_cases hk:k=.free
      · subst hk
        obtain ⟨c,hc⟩:=hl (n,.free) List.mem_cons_self rfl
        have e:cellOf env n=pure c:=by unfold cellOf;rw [hc]
        simp only [beq_self_eq_true,if_true,e,closOf,hc,pure_bind]
        exact ih _ fun y hy=>hl y (List.mem_cons_of_mem _ hy)
      · have hb:(k==NameKind.free)=false:=by simpa using hk
        simp only [hb,Bool.false_eq_true,if_false,closOf,pure_bind]
        exact ih _ fun y hy=>hl y (List.mem_cons_of_mem _ hy)
  have:=key scope.names [] h
  simpa using this
theorem closOf_sound (env:Env):∀ (l:List (Str×NameKind)) (cs:List (Str×Addr)),(∀ x c,cs.lookup x=some c->env.cells.lookup x=some c)->∀ x c,(closOf env l cs).lookup x=some c->env.cells.lookup x=some c:=by
  intro l
  induction l with
  | nil=>intro cs h x c e;exact h x c e
  | cons y r ih =>
    intro cs h x c e
    obtain ⟨n,k⟩:=y
    simp only [closOf] at e
    refine ih _ (fun x c e=>?_) x c e
    split at e
    · split at e
      · next c' hc =>
        rw [List.lookup_cons] at e
        split at e
        · next hx =>
          have hx':x=n:=by simpa using hx
          cases e
          rw [hx']
          exact hc
        · exact h x c e
      · exact h x c e
    · exact h x c e
theorem closOf_has (env:Env):∀ (l:List (Str×NameKind)) (cs:List (Str×Addr)) (x:Str),((x,NameKind.free)∈l/\(∃ c,env.cells.lookup x=some c))\/(∃ c,cs.lookup x=some c)->∃ c,(closOf env l cs).lookup x=some c:=by
  intro l
  induction l with
  | nil =>
    intro cs x h
    rcases h with ⟨h,_⟩ | h
    · simp at h
    · exact h
  | cons y r ih =>
    intro cs x h
    obtain ⟨n,k⟩:=y
    simp only [closOf]
    rcases h with ⟨h,c,hc⟩ | ⟨c,hc⟩
    · rcases List.mem_cons.mp h with e | e
      · cases e
        refine ih _ _ (.inr ⟨c,?_⟩)
        simp [hc]
      · exact ih _ _ (.inl ⟨e,c,hc⟩)
    · refine ih _ _ (.inr ?_)
      split
      · split
        · rw [List.lookup_cons]
          split
          · exact ⟨_,rfl⟩
          · exact ⟨c,hc⟩
        · exact ⟨c,hc⟩
      · exact ⟨c,hc⟩
abbrev cmp (X:Cx) (Nc:List Str) (scope:Scope) (C:Addr) (s₀:Shared) (H₀:Hp) (fp:List Addr):Cx :=
  { X with N:=Nc,s₀:=s₀,H₀:=H₀,env:=compEnvC scope (closOf X.env scope.names []) C X.env,outer:=X.stack,stack:=X.stack,ex:=fp,fn:=fun _=>false,xe:=fun _ _=>False }
def PTs (X:Cx) (ifs:List Expr) (tt:TT):Prop :=
  ∀ (pins:List (Addr×Obj)) (s:Shared) (σ:L2.St) (H:Hp) (Q:Bool->Hp->Prop),Inv X pins σ H s->tt σ H Q ->
    wpAny (model X.prog X.w) X.A (forIn ifs true fun c r=>if r=true then do let ok <- isTrue c X.env (eval c X.env);pure (ForInStep.yield ok) else pure (ForInStep.yield r)) (TP X pins σ Q) X.xe s
def tAll:TT:=fun _ H Q=>Q true H
theorem pts_nil {X:Cx}:PTs X [] tAll:=fun _ _ _ H _ I h=>wpAny_tests_nil ⟨H,I,h⟩
theorem pts_one {X:Cx}{c:Expr}{t:TT}(h:PT X c t):PTs X [c] t:=fun pins s σ H Q I q=>wpAny_tests_one (h pins s σ H Q I q)
section
variable {prog:Program}{w:World}{A:Around}{E:Value->Shared->Prop}{R:Result->Shared->Prop}{s:Shared}
theorem compLoop_go {elt target iter:Expr}{ifs:List Expr}{scope:Scope}{pos:Pos}{it acc:Value}{env:Env}(I:Nat->Shared->Prop)
    (turn : ∀ n s,I n s->wpAny (model prog w) A (pyNext it) (fun r s₁=>match r with
      | none=>R (.ok .next) s₁
      | some v=>wpAny (model prog w) A (letOwnedTupleGo target it v) (fun _ s₀=>wpAny (model prog w) A (assign target env v) (fun _ s₂ =>
          wpAny (model prog w) A (forIn ifs true fun c r=>if r=true then do let ok <- isTrue c env (eval c env);pure (ForInStep.yield ok) else pure (ForInStep.yield r)) (fun ok s₃ =>
            if ok=true then wpAny (model prog w) A (eval elt env) (fun x s₄ =>
              wpAny (model prog w) A (call (.builtin "list.append") [acc,x]) (fun _ s₅=>∃ m,m<n/\I m s₅) (notedBy (model prog w) A env fun e s'=>R (.error e) s') s₄) (notedBy (model prog w) A env fun e s'=>R (.error e) s') s₃
            else ∃ m,m<n/\I m s₃) (notedBy (model prog w) A env fun e s'=>R (.error e) s') s₂) (notedBy (model prog w) A env fun e s'=>R (.error e) s') s₀) (notedBy (model prog w) A env fun e s'=>R (.error e) s') s₁) (notedBy (model prog w) A env fun e s'=>R (.error e) s') s)
    (n:Nat) (h:I n s) :
    codeAny (model prog w) A (.compLoop (.ListComp elt [⟨target,iter,ifs,0⟩] scope pos) 0 it acc env) R s:=by
  refine codeAny_loop rfl I (fun n s hI=>?_) n h
  show wpAny _ A ((compTurn (.ListComp elt [⟨target,iter,ifs,0⟩] scope pos) 0 it acc env).onRaise (fun x=>do noteFrame x env;theTreesLotGoes x)) _ _ s
  refine wpAny_noted ?_
  rw [compTurn_list]
  refine wpAny_bind (wpAny_standAt (wpAny_bind (wpAny_mono (turn n s hI) (fun r s₁ h₁=>?_) fun _ _ h'=>h')))
  cases r with
  | none=>exact wpAny_pure h₁
  | some v =>
    refine wpAny_bind (wpAny_mono h₁ (fun _ s₀ h₀=>?_) fun _ _ h'=>h')
    refine wpAny_bind (wpAny_mono h₀ (fun _ s₂ h₂=>wpAny_bind (wpAny_mono h₂ (fun ok s₃ h₃=>?_) fun _ _ h'=>h')) fun _ _ h'=>h')
    cases ok with
    | false=>exact wpAny_pure ⟨rfl,h₃⟩
    | true =>
      exact wpAny_bind (wpAny_bind (wpAny_mono h₃ (fun x s₄ h₄=>wpAny_bind (wpAny_mono h₄ (fun _ s₅ h₅=>wpAny_pure (wpAny_pure ⟨rfl,h₅⟩)) fun _ _ h'=>h')) fun _ _ h'=>h'))
end
def cst (σ:L2.St) (k:Nat) (js:List Nat):L2.St:=List.replicate k none++js.map fun j=>(σ[j]?).join
def tCompW (g:TG) (tt:TT) (te:TE) (J:It) (σc:L2.St) (H1:Hp) (D:Addr) (Q:Hp->Prop):Prop :=
  ∃ W : Nat->Nat->L2.St->Hp->Prop,(∃ m,W 0 m σc H1)/\∀ i m σ H,W i m σ H ->
    (J.stop i H/\Q H)\/(J.go i H/\∃ N:L2.St->Hp->Prop,(∀ σ' H',N σ' H'->∃ m',m'<m/\W (i+1) m' σ' H')/\∀ x H',J.yld i H x H'->g x σ H' fun σ2 H2=>tt σ2 H2 fun b H3 =>
      if b=true then te σ2 H3 fun y H4=>∃ ys,H4 D=some (.lst ys)/\ys.length<sizeLine/\N σ2 (upd H4 D (.lst (ys++[y]))) else N σ2 H3)
abbrev Fam (α:Type):=Addr->Shared->Hp->List Addr->α
def tComp (k:Nat) (js:List Nat) (wi:TI) (g:Fam TG) (tt:Fam TT) (te:Fam TE):TE:=fun σ H Q=>wi σ H fun J H1=>∀ D,H1 D=none->∀ C s₀ H₀ fp,tCompW (g C s₀ H₀ fp) (tt C s₀ H₀ fp) (te C s₀ H₀ fp) J (cst σ k js) (upd H1 D (.lst [])) D fun H2=>Q (.ref D) H2
structure CompSc (X:Cx) (Nc:List Str) (k:Nat) (js:List Nat) (scope:Scope):Prop where
  kind:scope.kind=.function
  nocell:(scope.names.all fun y=>y.2 != .cell)=true
  loc:(scope.names.all fun y=>y.2 != .local||scope.names.lookup y.1==some .local)=true
  fre:(scope.names.all fun y=>y.2 != .free||X.env.scope.names.lookup y.1==some .cell)=true
  len:Nc.length=k+js.length
  out:((Nc.drop k).zip js).all (fun p=>X.N[p.2]?==some p.1&&X.env.scope.names.lookup p.1==some .cell&&scope.names.lookup p.1==some .free)=true
theorem lookup_relabel {env:Env}{x:Str}:∀ {names:List (Str×NameKind)},(names.map fun (n,k)=>if (k==NameKind.free&&env.scope.kind==.function&&env.kindOf n==some .cell) then (n,NameKind.cell) else (n,k)).lookup x=some .cell\/(names.map fun (n,k)=>if (k==NameKind.free&&env.scope.kind==.function&&env.kindOf n==some .cell) then (n,NameKind.cell) else (n,k)).lookup x=some .free ->
    (names.all fun y=>y.2 != .cell)=true->(x,NameKind.free)∈names
  | [],h,_=>by simp at h
  | (n, k)::r,h,hc=>by
    have hc':k≠.cell/\(r.all fun y=>y.2 != .cell)=true:=by simpa using hc
    by_cases hx:x=n
    · subst hx
      by_cases hk:k=.free
      · rw [hk];exact List.mem_cons_self
      · exfalso
        have hb:(k==NameKind.free)=false:=by simpa using hk
        simp only [List.map_cons,hb,Bool.false_and,Bool.false_eq_true,if_false,List.lookup_cons,beq_self_eq_true] at h
        rcases h with h | h
        · exact hc'.1 (Option.some.inj h)
        · exact hk (Option.some.inj h)
    · have hb:(x==n)=false:=by simpa using hx
      refine List.mem_cons_of_mem _ (lookup_relabel (env:=env) ?_ hc'.2)
      simp only [List.map_cons] at h
      split at h <;> (simp only [List.lookup_cons,hb] at h;exact h)
theorem relabel_free {env:Env}{x:Str}:∀ {names:List (Str×NameKind)},names.lookup x=some .free ->
    (names.map fun (n,k)=>if (k==NameKind.free&&env.scope.kind==.function&&env.kindOf n==some .cell) then (n,NameKind.cell) else (n,k)).lookup x=some .cell\/(names.map fun (n,k)=>if (k==NameKind.free&&env.scope.kind==.function&&env.kindOf n==some .cell) then (n,NameKind.cell) else (n,k)).lookup x=some .free
  | [],h=>by simp at h
  | (n,k)::r,h=>by
    by_cases hx:x=n
    · subst hx
      simp only [List.lookup_cons,beq_self_eq_true] at h
      cases h
      simp only [List.map_cons]
      split
      · left;simp [List.lookup_cons]
      · right;simp [List.lookup_cons]
    · have hb:(x==n)=false:=by simpa using hx
      simp only [List.lookup_cons,hb] at h
      have:=relabel_free (env:=env) h
      simp only [List.map_cons]
      split <;> (simp only [List.lookup_cons,hb];exact this)
section
variable {X:Cx}{pins:List (Addr×Obj)}{σ:L2.St}{s2:Shared}{tg elt iter:Expr}{ifs:List Expr}{scope:Scope}{pos:Pos}{Nc:List Str}{k:Nat}{js:List Nat}{g:Fam TG}{tt:Fam TT}{te:Fam TE}{J:It}{fp:List Addr}{it:Addr}{tn:Nat->Heap->Prop}{H2:Hp}
theorem comp_inv {H3:Hp}{s3 s4:Shared}{C:Addr}{m4:Str->Option Value}(S:CompSc X Nc k js scope) (I3:Inv X pins σ H3 s3) (f3:∀ b∈fp,FpOk X pins H3 b) (hfp:∀ b∈fp,∃ o,s3.heap.get? b=some o) (hC:s3.heap.objs.size<=C)
    (ho:s4.os=s3.os) (hgn:s4.gens=s3.gens) (hk:∀ b o,s3.heap.get? b=some o->s4.heap.get? b=some o) (hn:s4.heap.Ns C m4):Inv (cmp X Nc scope C s3 H3 fp) [] (cst σ k js) H3 s4:=by
  have hclo:∀ x c,(closOf X.env scope.names []).lookup x=some c->X.env.cells.lookup x=some c:=closOf_sound X.env _ _ (fun _ _ e=>by simp at e)
  have below:∀ b,b∈fp->b∉frs X.stack:=fun b hb z=>(List.mem_cons.mp (I3.stkSub b z)).elim (f3 b hb).2.1 (f3 b hb).2.2.1
  have fresh:∀ b o,s3.heap.get? b=some o->b≠C:=fun b o e=>Nat.ne_of_lt (Nat.lt_of_lt_of_le (Heap.lt_size e) hC)
  refine ⟨⟨I3.ok.mod,S.kind,I3.ok.glob,I3.ok.blt,hC,fun x y c h1 h2=>I3.ok.inj x y c (hclo x c h1) (hclo y c h2),fun x hx=>?_,fun x c h _=>absurd h Bool.false_ne_true,I3.ok.hd,I3.ok.frames,.inl rfl,fun b hb=>⟨?_,fun x c e=>(f3 b hb).2.2.2.2.1 x c (hclo x c e)⟩,I3.bs,
      Nat.le_trans I3.ok.bsz I3.sz,fun b o e hb=>?_,below,I3.stack,I3.stkFree⟩,ho,by rw [hgn];exact I3.bare,Un.kept hk,⟨m4,hn,fun i x v h1 h2 h3=>?_⟩,fun x c e=>?_,I3.hok.fresh hC,fun x c e=>I3.freeC x c (hclo x c e),fun p hp=>?_,I3.hok.kept hk,?_⟩
  · have hm:=lookup_relabel (env:=X.env) (names:=scope.names) hx S.nocell
    refine closOf_has X.env _ _ x (.inl ⟨hm,?_⟩)
    have:=List.all_eq_true.mp S.fre _ hm
    have this':X.env.scope.names.lookup x=some .cell:=by simpa using this
    exact I3.ok.has x (.inl this')
  · obtain ⟨o,e⟩:=hfp b hb
    exact fresh b o e
  · rcases (f3 b hb).2.2.2.1 with z | z
    · exact I3.ok.noex b o e z
    · exact absurd (Nat.lt_of_lt_of_le (Heap.lt_size (I3.ok.bs b o e).1) z) (Nat.lt_irrefl _)
  · have hik:k<=i:=by
      by_cases hi:k<=i
      · exact hi
      · exfalso
        have hi':i<k:=by omega
        unfold cst at h2
        rw [List.getElem?_append_left (by simpa using hi'),List.getElem?_replicate,if_pos hi'] at h2
        cases h2
    have h2':(js[i - k]?).map (fun j=>(σ[j]?).join)=some (some v):=by
      unfold cst at h2
      rw [List.getElem?_append_right (by simpa using hik)] at h2
      simpa using h2
    obtain ⟨j,hj,hv⟩:=Option.map_eq_some_iff.mp h2'
    have hσ:σ[j]?=some (some v):=by
      cases e:σ[j]? with
      | none=>rw [e] at hv;cases hv
      | some o=>rw [e] at hv;rw [show o=some v from hv]
    have hz:((Nc.drop k).zip js)[i - k]?=some (x,j):=by
      rw [List.getElem?_zip_eq_some]
      refine ⟨?_,hj⟩
      rw [List.getElem?_drop]
      have:k+(i - k)=i:=by omega
      rw [this]
      exact h1
    have ho:=List.all_eq_true.mp S.out _ (List.mem_of_getElem? hz)
    simp only [Bool.and_eq_true,beq_iff_eq] at ho
    obtain ⟨⟨o1,o2⟩,o3⟩:=ho
    obtain ⟨m,hm,hl⟩:=I3.loc
    obtain ⟨u,r,l⟩:=hl j x v o1 hσ (.inr (.inl o2))
    rcases l with ⟨l,_⟩ | ⟨_,c,hc,o,hco,hcd⟩
    · have l':X.env.scope.names.lookup x=some .local:=l
      rw [o2] at l'
      cases l'
    · obtain ⟨c',hc'⟩:=closOf_has X.env scope.names [] x (.inl ⟨PySem.mem_of_lookup o3,c,hc⟩)
      have e:=hclo x c' hc'
      rw [hc] at e
      cases e
      exact ⟨u,r,.inr ⟨relabel_free (env:=X.env) o3,c,hc',o,hk _ _ hco,hcd⟩⟩
  · obtain ⟨v,o,h1,h2⟩:=I3.cell x c (hclo x c e)
    exact ⟨v,o,hk _ _ h1,h2⟩
  · have hp':p∈X.pn:=by simpa using hp
    obtain ⟨e,n,ne,nf,d⟩:=I3.pin p (List.mem_append_left _ hp')
    exact ⟨hk _ _ e,n,fresh _ _ e,fun z=>(List.mem_cons.mp (I3.stkSub _ z)).elim ne nf,d⟩
  · simp [cst,S.len]
theorem comp_back {H3 H5:Hp}{s3 s5:Shared}{C:Addr}{σ5:L2.St}(I3:Inv X pins σ H3 s3) (f3:∀ b∈fp,FpOk X pins H3 b) (hC:s3.heap.objs.size<=C) (I5:Inv (cmp X Nc scope C s3 H3 fp) [] σ5 H5 s5) :
    Inv X pins σ H5 s5/\FpOk X pins H5 C/\∃ m,s5.heap.Ns C m:=by
  refine ⟨I3.call' I5.os I5.base I5.hok I5.bare (fun b hb=>?_),I3.fpOk hC I5.free,let ⟨m,hm,_⟩:=I5.loc;⟨m,hm⟩⟩
  obtain ⟨f0,f1,f2,f4,f5,f6⟩:=f3 b hb
  exact ⟨f4,f1,f5,f6⟩
theorem comp_core {Q:Addr->Hp->Prop}{E:Value->Shared->Prop}{RR:Value->Addr->Result->Shared->Prop}(S:CompSc X Nc k js scope) (hcalm:X.calm=true) (hg:∀ C s₀ H₀ fp,PG (cmp X Nc scope C s₀ H₀ fp) tg (g C s₀ H₀ fp)) (ht:∀ C s₀ H₀ fp,PTs (cmp X Nc scope C s₀ H₀ fp) ifs (tt C s₀ H₀ fp))
    (he:∀ C s₀ H₀ fp,PE (cmp X Nc scope C s₀ H₀ fp) elt (te C s₀ H₀ fp)) (I2:Inv X pins σ H2 s2) (T:Turn X.prog X.w X.K tg J fp it tn) (st2:tn 0 s2.heap) (f2:∀ b∈fp,FpOk X pins H2 b)
    (hw:∀ D,H2 D=none->∀ C s₀ H₀ fp,tCompW (g C s₀ H₀ fp) (tt C s₀ H₀ fp) (te C s₀ H₀ fp) J (cst σ k js) (upd H2 D (.lst [])) D (Q D))
    (hRR:∀ D C s' H',Q D H'->Inv X pins σ H' s'->FpOk X pins H' C->(∃ m,s'.heap.Ns C m)->RR (.ref D) C (.ok .next) s') :
    wpAny (model X.prog X.w) X.A (newList []) (fun acc s₃=>wpAny (model X.prog X.w) X.A (newFunctionEnv scope X.env.globals (closOf X.env scope.names []) [] X.env.qual none .none (some X.env)) (fun cenv s₄ =>
      codeAny (model X.prog X.w) X.A (.compStart (.ListComp elt [⟨tg,iter,ifs,0⟩] scope pos) 0 (.ref it) acc { cenv with scope:=relabel scope X.env }) (RR acc cenv.locals) s₄) E s₃) E s2:=by
  have I3:Inv X pins σ (upd H2 s2.heap.objs.size (.lst [])) { s2 with heap:=s2.heap.push { cls:=.type "list",data:=.seq ([]:List Value).toArray } }:=I2.lnew (its:=[]) (t':=s2.toks) .nil (by decide)
  have hold:∀ b∈fp,∃ o,s2.heap.get? b=some o:=fun b hb=>let ⟨o,e,_⟩:=T.obj _ _ st2 b hb;⟨o,e⟩
  have f3:∀ b∈fp,FpOk X pins (upd H2 s2.heap.objs.size (.lst [])) b:=fun b hb=>by
    obtain ⟨o,e⟩:=hold b hb
    exact ⟨by rw [upd_ne (Nat.ne_of_lt (Heap.lt_size e))];exact (f2 b hb).1,(f2 b hb).2⟩
  have w3:=hw _ I2.fresh
  generalize hD:s2.heap.objs.size=D at I3 f3 w3
  have kp3:∀ b o,s2.heap.get? b=some o->(s2.heap.push { cls:=.type "list",data:=.seq ([]:List Value).toArray }).get? b=some o:=fun b o e=>Heap.get?_push_of_some _ e
  refine wpAny_newObj_type (wpAny_newFunctionEnv (fun y hy z=>?_) (by intro y hy;simp at hy) (fun h₁ hns₁ hsb₁=>?_) S.kind)
  · have:=List.all_eq_true.mp S.nocell y hy
    rw [z] at this
    exact absurd this (by decide)
  dsimp only at hns₁ hsb₁ |-
  rw [hD]
  generalize hH:s2.heap.push { cls:=.type "list",dict:=none,data:=.seq ([]:List Value).toArray }=h3 at hns₁ hsb₁ I3 kp3 |-
  have k4:∀ b o,h3.get? b=some o->h₁.get? b=some o:=fun b o e=>hsb₁.extBut b o (Nat.ne_of_lt (Heap.lt_size e)) (Heap.get?_push_of_some _ e)
  have hold3:∀ b∈fp,∃ o,h3.get? b=some o:=fun b hb=>let ⟨o,e⟩:=hold b hb;⟨o,kp3 b o e⟩
  have I4:Inv (cmp X Nc scope h3.objs.size { s2 with heap:=h3 } (upd H2 D (.lst [])) fp) [] (cst σ k js) (upd H2 D (.lst [])) { s2 with heap:=h₁,toks:=s2.toks+([]:List (Str×Value)).length } :=
    comp_inv S I3 f3 hold3 (Nat.le_refl _) rfl rfl k4 hns₁
  have hclo:∀ x c,(closOf X.env scope.names []).lookup x=some c->X.env.cells.lookup x=some c:=closOf_sound X.env _ _ (fun _ _ e=>by simp at e)
  have stat:∀ {H':Hp},(∀ b∈fp,H' b=none)->∀ b∈fp,FpOk (cmp X Nc scope h3.objs.size { s2 with heap:=h3 } (upd H2 D (.lst [])) fp) [] H' b:=fun hn b hb=>by
    obtain ⟨o,e⟩:=hold3 b hb
    obtain ⟨_,g1,g2,g3,g4,g5⟩:=f3 b hb
    exact ⟨hn b hb,Nat.ne_of_lt (Heap.lt_size e),fun z=>(List.mem_cons.mp (I3.stkSub b z)).elim g1 g2,.inl hb,fun x c e=>g4 x c (hclo x c e),fun p hp=>g5 p (List.mem_append_left _ (by simpa using hp))⟩
  have loop:codeAny (model X.prog X.w) X.A (.compLoop (.ListComp elt [⟨tg,iter,ifs,0⟩] scope pos) 0 (.ref it) (.ref D) (compEnvC scope (closOf X.env scope.names []) h3.objs.size X.env)) (RR (.ref D) h3.objs.size)
      { s2 with heap:=h₁,toks:=s2.toks+([]:List (Str×Value)).length }:=by
    obtain ⟨W,⟨m0,w0⟩,turn⟩:=w3 h3.objs.size { s2 with heap:=h3 } (upd H2 D (.lst [])) fp
    refine compLoop_go (fun n s'=>∃ i σ' H',Inv (cmp X Nc scope h3.objs.size { s2 with heap:=h3 } (upd H2 D (.lst [])) fp) [] σ' H' s'/\tn i s'.heap/\(∀ b∈fp,H' b=none)/\W i n σ' H') ?_ m0
      ⟨0,_,_,I4,T.keep _ _ _ st2 (fun b hb o e=>k4 b o (kp3 b o e)),fun b hb=>(f3 b hb).1,w0⟩
    rintro n s5 ⟨i,σ5,H5,I5,st5,fr5,w5⟩
    rcases turn i n σ5 H5 w5 with ⟨stop,q⟩ | ⟨go,N,hN,step⟩
    · refine thn (T.done (cmp X Nc scope h3.objs.size { s2 with heap:=h3 } (upd H2 D (.lst [])) fp) rfl rfl rfl hcalm i [] s5 σ5 H5 _ I5 (stat fr5) st5 stop) fun r s6 ⟨hr,I6⟩=>?_
      subst hr
      obtain ⟨a,b,c⟩:=comp_back I3 f3 (Nat.le_refl _) I6
      exact hRR D _ s6 H5 q a b c
    · refine thn (T.item (cmp X Nc scope h3.objs.size { s2 with heap:=h3 } (upd H2 D (.lst [])) fp) rfl rfl rfl hcalm i [] s5 σ5 H5 _ I5 (stat fr5) st5 go) fun r s6 ⟨u,hr,h6⟩=>?_
      subst hr
      refine thn h6 fun _ s7 ⟨x,H7,I7,r7,y7,st7,fr7⟩=>?_
      have I7':=I7.pinned (stat fr7) (T.obj _ _ st7)
      have q7:=step x H7 y7
      have again:∀ {σ':L2.St}{H':Hp}{s':Shared},Inv (cmp X Nc scope h3.objs.size { s2 with heap:=h3 } (upd H2 D (.lst [])) fp) ([]++pinsAt fp s7.heap) σ' H' s'->N σ' H' ->
          ∃ m,m<n/\∃ i σ' H',Inv (cmp X Nc scope h3.objs.size { s2 with heap:=h3 } (upd H2 D (.lst [])) fp) [] σ' H' s'/\tn i s'.heap/\(∀ b∈fp,H' b=none)/\W i m σ' H':=fun {σ' H' s'} I' n'=>by
        obtain ⟨m',hm,w7⟩:=hN σ' H' n'
        refine ⟨m',hm,i+1,σ',H',I'.unpinned,T.keep _ _ _ st7 fun b hb o e=>(I'.pin (b,o) (List.mem_append_right _ (List.mem_append_right _ (mem_pinsAt hb e)))).1,fun b hb=>?_,w7⟩
        obtain ⟨o,e,d⟩:=T.obj _ _ st7 b hb
        exact (I'.pin (b,o) (List.mem_append_right _ (List.mem_append_right _ (mem_pinsAt hb e)))).2.1
      refine wpAny_mono (hg _ _ _ _ _ s7 σ5 H7 x u _ I7' r7 q7) (fun _ s8 ⟨σ8,H8,I8,q8⟩=>?_) (fun _ _ f=>f.elim)
      refine wpAny_mono (ht _ _ _ _ _ s8 σ8 H8 _ I8 q8) (fun ok s9 ⟨H9,I9,q9⟩=>?_) (fun _ _ f=>f.elim)
      cases ok with
      | false =>
        rw [if_neg Bool.false_ne_true] at q9 |-
        exact again I9 q9
      | true =>
        rw [if_pos rfl] at q9 |-
        refine wpAny_mono (he _ _ _ _ _ s9 σ8 H9 _ I9 q9) (fun y s10 ⟨v,H10,I10,r10,ys,hys,hz,q10⟩=>?_) (fun _ _ f=>f.elim)
        exact wpAny_mono (mt_append (X:=cmp X Nc scope h3.objs.size { s2 with heap:=h3 } (upd H2 D (.lst [])) fp) _ s10 σ8 H10 (.ref D) [v] (.ref D) [y] (fun _ H'=>N σ8 H') I10 rfl (.cons r10 .nil) ⟨D,ys,v,rfl,rfl,hys,hz,q10⟩) (fun _ s11 ⟨_,H11,I11,_,q11⟩=>again I11 q11) (fun _ _ f=>f.elim)
  exact codeAny_compStart_list loop (T.self _ 0 _ _ _ (T.keep _ _ _ st2 (fun b hb o e=>k4 b o (kp3 b o e))) loop)
theorem comp_clos (S:CompSc X Nc k js scope) {H:Hp}{s:Shared}(I:Inv X pins σ H s):closureFor scope X.env=pure (closOf X.env scope.names []) :=
  closOf_eq X.env scope fun y hy z=>by
    have:=List.all_eq_true.mp S.fre y hy
    rw [z] at this
    have this':X.env.scope.names.lookup y.1=some .cell:=by simpa using this
    exact I.ok.has y.1 (.inl this')
theorem comp_names (S:CompSc X Nc k js scope):∀ y∈scope.names,y.2=.local->scope.names.lookup y.1=some .local:=fun y hy z=>by
  have:=List.all_eq_true.mp S.loc y hy
  rw [z] at this
  simpa using this
theorem pe_comp {wi:TI}(S:CompSc X Nc k js scope) (hi:PI X tg iter wi) (hg:∀ C s₀ H₀ fp,PG (cmp X Nc scope C s₀ H₀ fp) tg (g C s₀ H₀ fp)) (ht:∀ C s₀ H₀ fp,PTs (cmp X Nc scope C s₀ H₀ fp) ifs (tt C s₀ H₀ fp))
    (he:∀ C s₀ H₀ fp,PE (cmp X Nc scope C s₀ H₀ fp) elt (te C s₀ H₀ fp)) (hcalm:X.calm=true:=by rfl) (hs:∀ x,foldedSetIterable iter X.env x=pure x:=by intro _;rfl):PE X (.ListComp elt [⟨tg,iter,ifs,0⟩] scope pos) (tComp k js wi g tt te):=by
  intro pins s σ H Q I h
  rw [eval_ListComp]
  refine wpAny_comprehension_free (use:=none) rfl hs (comp_clos S I) S.kind (comp_names S) ?_
  refine thn (hi pins s σ H _ I h) fun v s1 h1=>thn h1 fun itv s2 h2=>?_
  obtain ⟨it,fp,tn,J,H2,e,I2,T,st2,f2,w⟩:=h2
  subst e
  refine comp_core (Q:=fun D H'=>Q (.ref D) H') (RR:=fun acc C=>compPost (model X.prog X.w) X.A X.xe none (EP X pins σ Q) acc C) S hcalm hg ht he I2 T st2 f2 w fun D C s' H' q I' fC hm=>?_
  obtain ⟨m,hm⟩:=hm
  exact ⟨m,hm,fun h' sb=>⟨.ref D,H',I'.turned (t':=s'.toks) (fun b o hb e=>(sb.2 b hb).trans e) fC.1 fC.2.1 fC.2.2.2.1 fC.2.2.2.2.1 fC.2.2.2.2.2,rfl,q⟩⟩
theorem ps_compset {wi:TI}{y:Str}{py spos:Pos}{i:Nat}(S:CompSc X Nc k js scope) (hN:X.N.Nodup) (hiN:X.N[i]?=some y) (hx:Loc X.env.scope y) (hi:PI X tg iter wi) (hg:∀ C s₀ H₀ fp,PG (cmp X Nc scope C s₀ H₀ fp) tg (g C s₀ H₀ fp)) (ht:∀ C s₀ H₀ fp,PTs (cmp X Nc scope C s₀ H₀ fp) ifs (tt C s₀ H₀ fp))
    (he:∀ C s₀ H₀ fp,PE (cmp X Nc scope C s₀ H₀ fp) elt (te C s₀ H₀ fp)) (hsw:swapsWith (.ListComp elt [⟨tg,iter,ifs,0⟩] scope pos) (some (.Name y py)) spos.line X.env=pure true:=by rfl) (hcalm:X.calm=true:=by rfl) (hs:∀ x,foldedSetIterable iter X.env x=pure x:=by intro _;rfl)
    (hf:X.fn y=true\/X.env.scope.names.lookup y=some .local:=by first | exact .inl rfl | exact .inr rfl | assumption) :
    PS X (.Assign [.Name y py] (.ListComp elt [⟨tg,iter,ifs,0⟩] scope pos) spos) (tAsg (tComp k js wi g tt te) (gName i)):=by
  intro pins s σ H D I h
  rw [exec_Assign_Name_used _ _ _ _ hsw]
  refine wpAny_bind (wpAny_standAt (wpAny_bind ?_))
  show wpAny _ X.A (do let _ <- comprehension (.ListComp elt [⟨tg,iter,ifs,0⟩] scope pos) scope X.env _ (newList []) false (eval iter X.env) (some (assign (.Name y py) X.env))) _ _ s
  refine wpAny_bind (wpAny_mono (wpAny_comprehension_free (use:=some (assign (.Name y py) X.env)) (Q:=fun _ s'=>SP X pins D .next s') rfl hs (comp_clos S I) S.kind (comp_names S)
    (thn (hi pins s σ H _ I h) fun v s1 h1=>thn h1 fun itv s2 h2=>?_)) (fun _ s' hq=>wpAny_pure (wpAny_pure hq)) fun _ _ e=>e)
  obtain ⟨it,fp,tn,J,H2,e,I2,T,st2,f2,w⟩:=h2
  subst e
  refine comp_core (Q:=fun Dd H'=>D.nx (σ.set i (some (.ref Dd))) H') (RR:=fun acc C=>compPost (model X.prog X.w) X.A X.xe (some (assign (.Name y py) X.env)) (fun _ s'=>SP X pins D .next s') acc C) S hcalm hg ht he I2 T st2 f2 w fun Dd C s' H' q I' fC hm=>?_
  obtain ⟨m,hm⟩:=hm
  show wpAny _ X.A (assign (.Name y py) X.env (.ref Dd)) _ _ _
  refine wpAny_assign_Name (store_ok2 I' hN hiN hx (v:=.ref Dd) rfl (fun s'' I'' ⟨a,sb,ha⟩=>?_) hf)
  have hCa:C≠a:=by
    rcases ha with z | z
    · rw [z];exact fC.2.1
    · exact Ne.symm (fC.2.2.2.2.1 y a z)
  exact ⟨m,hm.sameBut sb hCa,fun h' sb'=>⟨_,H',I''.turned (t':=s''.toks) (fun b o hb e=>(sb'.2 b hb).trans e) fC.1 fC.2.1 fC.2.2.2.1 fC.2.2.2.2.1 fC.2.2.2.2.2,q⟩⟩
end
theorem comp_list {K:PySem.W.Frag}{a D:Addr}{xs:List V}{g:TG}{tt:TT}{te:TE}{σ:L2.St}{H:Hp}{Q:Hp->Prop}(Pv:Nat->L2.St->Hp->Prop) (h0:Pv 0 σ H) (hl:∀ i σ H,i<=xs.length->Pv i σ H->SqL K H a xs)
    (hs:∀ i x σ H,xs[i]?=some x->Pv i σ H->g x σ H fun σ2 H2=>tt σ2 H2 fun b H3=>if b=true then te σ2 H3 fun y H4=>∃ ys,H4 D=some (.lst ys)/\ys.length<sizeLine/\Pv (i+1) σ2 (upd H4 D (.lst (ys++[y]))) else Pv (i+1) σ2 H3)
    (hd:∀ σ H,Pv xs.length σ H->Q H):tCompW g tt te (Itl K a) σ H D Q:=by
  refine ⟨fun i m σ H=>m=xs.length - i/\i<=xs.length/\Pv i σ H,⟨xs.length,by simp,Nat.zero_le _,h0⟩,?_⟩
  rintro i m σ H ⟨rfl,hi,p⟩
  have q:=hl i σ H hi p
  by_cases hlt:i<xs.length
  · refine .inr ⟨⟨xs,xs[i],q,by simp [hlt]⟩,Pv (i+1),fun σ' H' p'=>⟨xs.length - (i+1),by omega,rfl,hlt,p'⟩,fun x H' y=>?_⟩
    obtain ⟨e,y⟩:=y
    subst e
    exact hs i x σ _ (y xs q) p
  · have e:i=xs.length:=by omega
    subst e
    exact .inl ⟨⟨xs,q,Nat.le_refl _⟩,hd σ H p⟩
theorem comp_range {lo:Int}{n:Nat}{D:Addr}{g:TG}{tt:TT}{te:TE}{σ:L2.St}{H:Hp}{Q:Hp->Prop}(Pv:Nat->L2.St->Hp->Prop) (h0:Pv 0 σ H)
    (hs:∀ i σ H,i<n->Pv i σ H->g (.int (lo+i)) σ H fun σ2 H2=>tt σ2 H2 fun b H3=>if b=true then te σ2 H3 fun y H4=>∃ ys,H4 D=some (.lst ys)/\ys.length<sizeLine/\Pv (i+1) σ2 (upd H4 D (.lst (ys++[y]))) else Pv (i+1) σ2 H3)
    (hd:∀ σ H,Pv n σ H->Q H):tCompW g tt te (Itr lo n) σ H D Q:=by
  refine ⟨fun i m σ H=>m=n - i/\i<=n/\Pv i σ H,⟨n,by simp,Nat.zero_le _,h0⟩,?_⟩
  rintro i m σ H ⟨rfl,hi,p⟩
  by_cases hlt:i<n
  · refine .inr ⟨hlt,Pv (i+1),fun σ' H' p'=>⟨n - (i+1),by omega,rfl,hlt,p'⟩,fun x H' y=>?_⟩
    obtain ⟨e,y⟩:=y
    subst e
    subst y
    exact hs i σ _ hlt p
  · have e:i=n:=by omega
    subst e
    exact .inl ⟨Nat.le_refl _,hd σ H p⟩
theorem comp_listN {K:PySem.W.Frag}{a D:Addr}{xs:List V}{te:TE}{σ:L2.St}{H:Hp}{Q:Hp->Prop}(Pv:Nat->L2.St->Hp->Prop) (h0:Pv 0 σ H) (hl:∀ i σ H,i<=xs.length->Pv i σ H->SqL K H a xs)
    (hs:∀ i x σ H,xs[i]?=some x->Pv i σ H->te (σ.set 0 (some x)) H fun y H4=>∃ ys,H4 D=some (.lst ys)/\ys.length<sizeLine/\Pv (i+1) (σ.set 0 (some x)) (upd H4 D (.lst (ys++[y]))))
    (hd:∀ σ H,Pv xs.length σ H->Q H):tCompW (gName 0) tAll te (Itl K a) σ H D Q :=
  comp_list Pv h0 hl (fun i x σ H hx hp=>by
    simp only [gName,tAll,if_true]
    exact hs i x σ H hx hp) hd
theorem comp_rangeN {lo:Int}{n:Nat}{D:Addr}{te:TE}{σ:L2.St}{H:Hp}{Q:Hp->Prop}(Pv:Nat->L2.St->Hp->Prop) (h0:Pv 0 σ H)
    (hs:∀ i σ H,i<n->Pv i σ H->te (σ.set 0 (some (.int (lo+i)))) H fun y H4=>∃ ys,H4 D=some (.lst ys)/\ys.length<sizeLine/\Pv (i+1) (σ.set 0 (some (.int (lo+i)))) (upd H4 D (.lst (ys++[y]))))
    (hd:∀ σ H,Pv n σ H->Q H):tCompW (gName 0) tAll te (Itr lo n) σ H D Q :=
  comp_range Pv h0 (fun i σ H hi hp=>by
    simp only [gName,tAll,if_true]
    exact hs i σ H hi hp) hd
end BF
namespace BF
open PySem PySem.Spec PyProof.Rows L2
open Sem (wp)
theorem relV_inj {v v':V}{u:Value}(h:RelV v u) (h':RelV v' u):v=v':=by
  cases v <;> cases v' <;> simp only [L2.RelV] at h h' <;> first
    | rfl
    | (subst h;cases h';rfl)
    | (subst h;obtain ⟨t',e⟩:=h';cases e)
    | (obtain ⟨t,rfl⟩:=h;cases h';done)
    | (obtain ⟨t,rfl⟩:=h;obtain ⟨t',e⟩:=h';cases e;rfl)
    | (obtain ⟨t,rfl⟩:=h;obtain ⟨t',e⟩:=h';cases e)
section
variable {P:Program}{w:World}{H:Hp}{s:Shared}
theorem pick_eq (ok:HOk P w H s.heap) {A:Around}{its:List Value}{vs:List V}{ds:List Dt}{x:V}{xv:Value}{d:Dt}(rv:Vals vs its) (hd:DatsAt H vs ds) (hx:DatAt H x d) (rx:RelV x xv) (hu:∀ e∈ds,A.units+e.dep<cLine) :
    ∃ e:Value->Bool,(∀ y,y∈its.toArray->SeqAt.EqAt A s y xv (e y))/\∀ i (h1:i<its.length) (h2:i<ds.length),e its[i]=true↔ds[i]=d:=by
  have l1:=rv.length
  have l2:=hd.length
  have h0:∀ y:Value,∃ b:Bool,∀ i (h1:i<its.length) (h2:i<ds.length),its[i]=y->SeqAt.EqAt A s y xv b/\(b=true↔ds[i]=d):=by
    intro y
    by_cases c:∃ i,∃ h:i<its.length,its[i]=y
    · obtain ⟨i,hi,e⟩:=c
      obtain ⟨b,h1,h2⟩:=eqAt_dat ok ds[i] d vs[i] x its[i] xv A (hd.get i (by omega) (by omega)) hx (Vals.at rv i (by omega) hi) rx (hu _ (List.getElem_mem _))
      refine ⟨b,fun j g1 g2 ej=>?_⟩
      have ev:vs[j]=vs[i]:=relV_inj (Vals.at rv j (by omega) g1) (by rw [ej,<- e];exact Vals.at rv i (by omega) hi)
      have ed:ds[j]=ds[i]:=DatAt.inj _ _ vs[j] (hd.get j (by omega) g2) (by rw [ev];exact hd.get i (by omega) (by omega))
      rw [ed]
      exact ⟨e▸h1,h2⟩
    · exact ⟨true,fun i h1 _ e=>absurd ⟨i,h1,e⟩ c⟩
  obtain ⟨e,he⟩:=Classical.axiomOfChoice h0
  refine ⟨e,fun y hy=>?_,fun i h1 h2=>(he _ i h1 h2 rfl).2⟩
  have hy':y∈its:=by simpa using hy
  obtain ⟨i,hi,e1⟩:=List.getElem_of_mem hy'
  exact (he y i hi (by omega) e1).1
theorem any_pick {its:List Value}{ds:List Dt}{d:Dt}{e:Value->Bool}(hl:its.length=ds.length) (h:∀ i (h1:i<its.length) (h2:i<ds.length),e its[i]=true↔ds[i]=d):its.toArray.any e=true↔d∈ds:=by
  rw [List.any_toArray,List.any_eq_true]
  constructor
  · rintro ⟨y,hy,hb⟩
    obtain ⟨i,hi,rfl⟩:=List.getElem_of_mem hy
    exact List.mem_iff_getElem.mpr ⟨i,by omega,(h i hi (by omega)).mp hb⟩
  · intro hm
    obtain ⟨i,hi,e1⟩:=List.getElem_of_mem hm
    exact ⟨its[i]'(by omega),List.getElem_mem _,(h i (by omega) hi).mpr e1⟩
end
section
variable {X:Cx}
theorem op_inD:OpR X (compareOp .In) (fun x y H Q=>∃ d p vs ds,DatAt H x d/\y=.ref p/\H p=some (.lst vs)/\DatsAt H vs ds/\(∀ e∈ds,X.A.units+1+e.dep<cLine)/\∀ b,(b=true↔d∈ds)->Q (.bl b) H):=by
  intro pins s σ H x y v u Q I rx ry h
  obtain ⟨d,p,vs,ds,hx,rfl,hp,hd,hu,q⟩:=h
  cases ry
  obtain ⟨its,ri,p1⟩:=lstOk I.hok hp
  obtain ⟨e,he,hb⟩:=pick_eq (A:=X.A.in1) I.hok ri hd hx rx (fun e z=>by rw [in1_units];exact hu e z)
  exact SeqAt.in_listAt e p1 he ⟨.bl _,H,I,rfl,q _ (any_pick (by have:=ri.length;have:=hd.length;omega) hb)⟩
theorem op_notInD:OpR X (compareOp .NotIn) (fun x y H Q=>∃ d p vs ds,DatAt H x d/\y=.ref p/\H p=some (.lst vs)/\DatsAt H vs ds/\(∀ e∈ds,X.A.units+1+e.dep<cLine)/\∀ b,(b=true↔¬ d∈ds)->Q (.bl b) H):=by
  intro pins s σ H x y v u Q I rx ry h
  obtain ⟨d,p,vs,ds,hx,rfl,hp,hd,hu,q⟩:=h
  cases ry
  obtain ⟨its,ri,p1⟩:=lstOk I.hok hp
  obtain ⟨e,he,hb⟩:=pick_eq (A:=X.A.in1) I.hok ri hd hx rx (fun e z=>by rw [in1_units];exact hu e z)
  refine SeqAt.notIn_listAt e p1 he ⟨.bl _,H,I,rfl,q _ ?_⟩
  rw [<- any_pick (by have:=ri.length;have:=hd.length;omega) hb,Bool.not_eq_true',Bool.not_eq_true]
def rIndexD (X:Cx):V->List V->Hp->VK->Prop:=fun x xs H Q=>∃ p v vs ds d j,x=.ref p/\xs=[v]/\H p=some (.lst vs)/\DatsAt H vs ds/\DatAt H v d/\(∀ e∈ds,X.A.units+2+e.dep<cLine)/\(∃ h:j<ds.length,ds[j]=d/\∀ i (h':i<ds.length),i<j->ds[i]≠d)/\Q (.int j) H
theorem mt_index:MtR X "list.index" (rIndexD X):=by
  intro pins s σ H x vs v us Q I rx rv h
  obtain ⟨p,y,ys,ds,d,j,rfl,rfl,hp,hd,hy,hu,⟨hj,hj1,hj2⟩,q⟩:=h
  cases rx
  obtain ⟨u,rfl,ru⟩:=rv.one
  obtain ⟨z,its,n,r,hl,e⟩:=I.lstM hp
  have l2:=hd.length
  obtain ⟨f,he,hb⟩:=pick_eq (A:=X.A.in1) I.hok r hd hy ru (fun e z=>by rw [in1_units];have:=hu e z;omega)
  have hn:=line63
  refine call_meets F.slot_list_index ⟨_,e,rfl⟩ F.entry_list_index (F.args_list_index_2 _ _) (SeqAt.list_indexAt p its.toArray n none #[] u f j (by simp only [List.size_toArray];omega) (by omega)
    (by simp only [List.getElem_toArray];exact (hb j (by omega) hj).mpr hj1) (fun m hm h1=>?_)) ⟨e,?_,?_⟩
  · simp only [List.getElem_toArray]
    have hm':m<its.length:=by simpa using hm
    exact Bool.eq_false_iff.mpr fun z=>hj2 m (by omega) h1 ((hb m hm' (by omega)).mp z)
  · exact he
  · exact ⟨.int j,H,I.tok _,⟨_,rfl⟩,q⟩
end
def Itw (K:PySem.W.Frag) (a:Addr) (xs:List V):It :=
  ⟨fun i H=>SqL K H a xs/\i<xs.length,fun i H x H'=>H'=H/\xs.reverse[i]?=some x,fun i H=>i=xs.length⟩
theorem turn_rl {P:Program}{w:World}{K:PySem.W.Frag}{tg:Expr}(a it:Addr) (xs:List V):Turn P w K tg (Itw K a xs) [it] it (fun i h=>h.IsRevIter it a ((xs.length:Int) - 1 - (i:Nat))) where
  mem:=by simp
  obj:=fun i h st b hb=>by
    have e:b=it:=by simpa using hb
    subst e
    obtain ⟨o,ho,hc,hd⟩:=st
    exact ⟨o,ho,fun v z=>by rw [hd] at z;cases z⟩
  keep:=fun i h h' st k=>st.at fun o e=>k it (by simp) o e
  item:=by
    intro X hP hw hK hc i pins s σ H E I hf st hg
    subst hP hw hK
    obtain ⟨hq,hi⟩:=hg
    obtain ⟨its,rv,p,hz⟩:=I.list hq
    obtain ⟨f0,f1,f2,f3,f4,f5⟩:=hf it (by simp)
    have hl:=rv.length
    have e1:(xs.length:Int) - 1 - (i:Nat)=((xs.length - 1 - i:Nat):Int):=by omega
    obtain ⟨x,hx⟩:∃ x,xs[xs.length - 1 - i]?=some x:=⟨_,List.getElem?_eq_getElem (by omega)⟩
    obtain ⟨u,hu,ru⟩:=rv.get hx
    rw [e1] at st
    refine wpAny_pyNext_rev_item st p.isList (x:=u) (by simpa using hu) fun h' st' sb=>?_
    have I1:Inv X pins σ H { s with heap:=h' }:=I.turned (t':=s.toks) (fun b o hb e=>(sb.2 b hb).trans e) f0 f1 f3 f4 f5
    have e2:((xs.length - 1 - i:Nat):Int) - 1=(xs.length:Int) - 1 - ((i+1:Nat):Int):=by omega
    rw [e2] at st'
    obtain ⟨o,ho,hoc,hod⟩:=id st'
    exact ⟨u,rfl,go_of (s:={ s with heap:=h' }) (n:="list_reverseiterator") ho hoc hod (by decide) ⟨x,H,I1,ru,⟨rfl,by rw [List.getElem?_reverse (by omega)];exact hx⟩,st',fun b hb=>(hf b hb).1⟩⟩
  done:=by
    intro X hP hw hK hc i pins s σ H E I hf st hg
    subst hP hw hK
    obtain ⟨f0,f1,f2,f3,f4,f5⟩:=hf it (by simp)
    have hi:i=xs.length:=hg
    have e1:(xs.length:Int) - 1 - (i:Nat) = -1:=by omega
    rw [e1] at st
    exact wpAny_pyNext_rev_end (I.ok.hd hc) st fun h' eb=>⟨rfl,I.turned (t':=s.toks) (fun b o hb e=>eb b o hb e) f0 f1 f3 f4 f5⟩
  self:=fun _ _ _ _ _ st h=>wpAny_pyIter_revIter st h
section
variable {X:Cx}{tg:Expr}
def iRevL (K:PySem.W.Frag) (ta:TA):TI:=fun σ H R=>ta σ H fun vs H1=>∃ a xs,vs=[.ref a]/\SqL K H1 a xs/\R (Itw K a xs) H1
theorem pi_revL {a:Expr}{ta:TA}{p pos:Pos}(hg:Gl X "reversed") (hm:X.mg "reversed"=none) (ha:PA X [a] ta) (hs:starEach [a] X.env=[(false,eval a X.env)]:=by rfl):PI X tg (.Call (.Name "reversed" p) [a] [] pos) (iRevL X.K ta):=by
  intro pins s σ H R I h
  refine Call_ (ld_blt I hg hm bt_reversed (PyProof.Rows.callWith_type1 (thn (ha pos pins s σ H _ I h) fun us s1 ⟨vs,H1,I1,r1,q1⟩=>?_) hs rfl))
  obtain ⟨b,xs,e,hq,q⟩:=q1
  subst e
  obtain ⟨u,rfl,ru⟩:=vals1 r1
  cases ru
  obtain ⟨its,rv,pl,hz⟩:=I1.list hq
  have hl:=rv.length
  refine call_reversed_list pl.isList ?_
  have e3:(((its.toArray).size:Nat):Int) - 1=(xs.length:Int) - 1 - ((0:Nat):Int):=by simp only [List.size_toArray];omega
  rw [e3]
  have I2:Inv X pins σ H1 { s1 with heap:=s1.heap.push (revObj b ((xs.length:Int) - 1 - ((0:Nat):Int))) }:=I1.kept (t':=s1.toks) fun b o e=>Heap.get?_push_of_some _ e
  have st:(s1.heap.push (revObj b ((xs.length:Int) - 1 - ((0:Nat):Int)))).IsRevIter s1.heap.objs.size b ((xs.length:Int) - 1 - ((0:Nat):Int)):=⟨_,Heap.get?_push_size _ rfl,rfl,rfl⟩
  refine wpAny_pyIter_revIter (s:={ s1 with heap:=s1.heap.push (revObj b ((xs.length:Int) - 1 - ((0:Nat):Int))) }) st ?_
  refine ⟨s1.heap.objs.size,[s1.heap.objs.size],_,_,H1,rfl,I2,turn_rl b _ xs,st,fun c hc=>?_,q⟩
  have e:c=s1.heap.objs.size:=by simpa using hc
  subst e
  exact I1.fpOk (Nat.le_refl _) (I1.hok.fresh (Nat.le_refl _))
end
theorem for_revL {K:PySem.W.Frag}{a:Addr}{xs:List V}{g:TG}{tb:TS}{D:Ends}{σ:L2.St}{H:Hp}(Pv:Nat->L2.St->Hp->Prop) (h0:Pv 0 σ H) (hl:∀ i σ H,i<=xs.length->Pv i σ H->SqL K H a xs)
    (hs:∀ i x σ H,xs.reverse[i]?=some x->Pv i σ H->g x σ H fun σ2 H2=>tb { D with nx:=Pv (i+1),ct:=Pv (i+1),bk:=D.nx } σ2 H2) (hd:∀ σ H,Pv xs.length σ H->D.nx σ H) :
    ∃ W:Nat->Nat->L2.St->Hp->Prop,(∃ m,W 0 m σ H)/\∀ i m σ H,W i m σ H ->
      ((Itw K a xs).stop i H/\D.nx σ H)\/((Itw K a xs).go i H/\∃ N:L2.St->Hp->Prop,(∀ σ' H',N σ' H'->∃ m',m'<m/\W (i+1) m' σ' H')/\∀ x H',(Itw K a xs).yld i H x H'->g x σ H' fun σ2 H2=>tb { D with nx:=N,ct:=N,bk:=D.nx } σ2 H2):=by
  refine ⟨fun i m σ H=>m=xs.length - i/\i<=xs.length/\Pv i σ H,⟨xs.length,by simp,Nat.zero_le _,h0⟩,?_⟩
  rintro i m σ H ⟨rfl,hi,p⟩
  by_cases c:i=xs.length
  · subst c
    exact .inl ⟨rfl,hd σ H p⟩
  · have hlt:i<xs.length:=by omega
    refine .inr ⟨⟨hl i σ H hi p,hlt⟩,Pv (i+1),fun σ' H' k=>⟨xs.length - (i+1),by omega,rfl,by omega,k⟩,?_⟩
    rintro x H' ⟨rfl,hx⟩
    exact hs i x σ _ hx p
end BF
namespace PySem
open Sem (wp)
namespace DP
end DP
section
variable {prog:Program}{w:World}{K:Type} [DecidableEq K] {knd:KeyKind prog w K}{A:Around}{R:Result->Shared->Prop}
end
end PySem
namespace BF
open PySem PySem.Spec PyProof.Rows L2
open Sem (wp)
end BF
namespace BF
open PySem PySem.Spec PyProof.Rows L2
open Sem (wp)
section
variable {X:Cx}
theorem bt_zip:bootBuiltins "zip"=some (.type "zip"):=by decide +kernel
theorem _root_.L2.Inv.turnedL {pins:List (Addr×Obj)}{σ:L2.St}{H:Hp}{s:Shared}{h':Heap}{t':Nat}{ch:List Addr}(I:Inv X pins σ H s) (k:∀ b o,b∉ch->s.heap.get? b=some o->h'.get? b=some o) (hf:∀ b∈ch,FpOk X pins H b) :
    Inv X pins σ H { s with heap:=h',toks:=t' }:=by
  have nit:∀ b u,H b=some u->b∉ch:=fun b u e z=>by rw [(hf b z).1] at e;cases e
  have hL:X.env.locals∉ch:=fun z=>(hf _ z).2.1 rfl
  refine I.step (g':=s.gens) (d':=s.drawn) (ch:=ch) (fun b hb=>?_) (fun b o _ _ hc e _=>k b o hc e) (fun b o _ _ hc e _=>⟨o.slots,k b o hc e⟩) (fun _ _ _ _ n=>n)
    (fun b o hc e=>⟨o,k b o hc e⟩) (fun _ _ e=>e) (fun _ _ _ e=>e) (fun b ps e=>⟨#[],by rw [e];simp⟩) (fun m hm=>?_) (fun b u e=>?_) I.bare
  · obtain ⟨f0,f1,f2,f3,f4,f5⟩:=hf b hb
    exact ⟨f3,f1,f4,f5⟩
  · obtain ⟨o,es,ep,ho,r⟩:=hm
    exact ⟨o,es,ep,k _ o hL ho,r⟩
  · refine (I.hok b u e).stay (fun c v hc q=>k c v ?_ q) (fun _ q=>q) fun _ _ q=>q
    rcases hc with z | z
    · rw [z];exact nit b u e
    · exact nit c _ z
end
section
variable {X:Cx}{elts:List Expr}{epos:Pos}
end
end BF
namespace BF
open PySem PySem.Spec PyProof.Rows L2
open Sem (wp)
theorem strs_vals:∀ {us:List Value}{ys:List Str},StrsAre us ys->Vals (ys.map V.str) us
  | _,_,.nil=>.nil
  | _,_,.cons y t r=>.cons ⟨t,rfl⟩ (strs_vals r)
theorem rising_pair:∀ (p:Str) (l:List Str),risingS p l=true->(p::l).Pairwise fun a b=>¬ b.cps.toList<a.cps.toList
  | p,[],_=>List.pairwise_singleton _ _
  | p,x::r,h=>by
    have h':(!ltCps x.cps.toList p.cps.toList&&risingS x r)=true:=h
    rw [Bool.and_eq_true,ltCps_eq] at h'
    have h1:¬ x.cps.toList<p.cps.toList:=by simpa using h'.1
    have ih:=rising_pair x r h'.2
    refine List.pairwise_cons.mpr ⟨fun b hb=>?_,ih⟩
    rcases List.mem_cons.mp hb with rfl | hb
    · exact h1
    · have h2:=List.rel_of_pairwise_cons ih hb
      intro z
      exact absurd (List.le_trans (List.not_lt.mp h1) (List.not_lt.mp h2)) (List.not_le.mpr z)
theorem sorted_pair (l:List Str) (h:sortedS l=true):l.Pairwise fun a b=>¬ b.cps.toList<a.cps.toList:=by
  cases l with
  | nil=>exact .nil
  | cons x r=>exact rising_pair x r h
theorem call_sorted_dict {X:Cx}(hc:X.calm=true):CallR X (.builtin "sorted") (fun xs H Q=>∃ (d:Addr) (kvs:List (Key×V)) (ws:List Str),xs=[.ref d]/\H d=some (.dK kvs)/\kvs.map (·.1)=ws.map Sum.inr/\ws.length<64 /\
    ∀ (l:Addr) (ss:List Str),H l=none->ss.Perm ws->(ss.Pairwise fun a b=>¬ b.cps.toList<a.cps.toList)->Q (.ref l) (upd H l (.lst (ss.map V.str)))):=by
  intro pins s σ H xs us Q I r h
  obtain ⟨d,kvs,ws,rfl,hd,hks,hlen,q⟩:=h
  obtain ⟨u,rfl,ru⟩:=r.one
  cases ru
  obtain ⟨z,lo,vs,rel,dd⟩:=dk_of I.hok hd
  obtain ⟨ep,hat⟩:=dd.dictAt
  have hkl:kvs.length=ws.length:=by have:=congrArg List.length hks;simpa using this
  have hvl:=rel.length
  have hn:=line63
  refine Calls.call_function_entry kind_sorted plain_sorted entry_sorted (args_sorted1 _) ?_
  unfold Builtin.«sorted»
  refine wpAny_bind (m:=checkCount "sorted" 1 1 _) (wpAny_pure ?_)
  refine wpAny_bind (PySem.W.kdu_collect (A:=X.A.in1) (PySem.W.kdl_dict (knd:=mixKind X.prog X.w) (kvs:=vs) (ep:=ep) lo) (I.ok.hd hc) hat (by omega) fun h1 tk acc hk hacc=>?_)
  have hal:acc.toList.length=ws.length:=by rw [Array.length_toList,hacc.1];omega
  have hS:StrsAre acc.toList ws:=by
    refine strs_are (paired_of (by simp [hal]) fun i x u e1 e2=>?_)
    obtain ⟨k,y,hy,hky⟩:=hacc.2 i u (by rw [<- Array.getElem?_toList];exact e2)
    have hk1:(vs.map (·.1))[i]?=some k:=by rw [List.getElem?_map,hy];rfl
    rw [<- rel.keys,hks,List.getElem?_map] at hk1
    rw [List.getElem?_map] at e1
    cases hw:ws[i]? with
    | none=>rw [hw] at hk1;cases hk1
    | some w' =>
      rw [hw] at hk1 e1
      cases hk1
      cases e1
      exact key_rel hky
  have I1:Inv X pins σ H { s with heap:=h1,toks:=tk }:=I.kept hk
  refine wpAny_bind (wpAny_newList ?_ (by rw [hal];omega))
  have ho:(h1.push (seqObj "list" acc.toList.toArray 0)).get? h1.objs.size=some (seqObj "list" acc.toList.toArray 0):=Heap.get?_push_size _ rfl
  have fresh:H h1.objs.size=none:=I1.fresh
  refine wpAny_bind (wpAny_holding (wpAny_call_entry slot_list_sort ⟨_,ho,rfl⟩ entry_list_sort (list_sort_treeK strKind_oneLt ho hS.keysOf (fun v₁ v₂ rest e=>keyKind_strs (by rw [<- e];exact hS)) (by omega) fun st' hp hs=>⟨_,rfl,?_⟩) (args_list_sort _)))
  obtain ⟨ss,g1,g2,g3⟩:=sorted_out_str hS hp hs
  obtain ⟨e,he⟩:=sortedHeap_at (out:=(arrOf st').map (·.2)) ho
  refine wpAny_pure ⟨_,rfl,?_⟩
  have hsl:(ss.map V.str).length<=sizeLine:=by rw [zLM,g2.length_eq];omega
  refine ⟨.ref h1.objs.size,upd H h1.objs.size (.lst (ss.map V.str)),I1.laid (a:=h1.objs.size) (t':=tk) (fun b o eb=>?_) (Nat.le_refl _) ⟨hsl,_,e,strs_vals g1,he⟩,rfl,q _ ss fresh g2 (sorted_pair ss g3)⟩
  have hlt:b<h1.objs.size:=Heap.lt_size eb
  have hsz:(h1.push (seqObj "list" acc.toList.toArray 0)).objs.size=h1.objs.size+1:=Heap.size_push ..
  rw [sortedHeap_old (Nat.ne_of_lt hlt) (by rw [hsz];exact Nat.lt_succ_of_lt hlt)]
  exact Heap.get?_push_of_some _ eb
theorem bt_sorted:bootBuiltins "sorted"=some (.builtin "sorted"):=by decide +kernel
end BF
namespace BF
open PySem
mutual
def Tm.bl:Tm->List Str
  | .num _=>[]
  | .name _=>[]
  | .blank w=>[w]
  | .thing _ ps=>blL ps
def blL:List Tm->List Str
  | []=>[]
  | p::r=>p.bl++blL r
end
def addAll (acc:List Str):List Str->List Str
  | []=>acc
  | x::r=>if x∈acc then addAll acc r else addAll (acc++[x]) r
theorem addAll_append (acc a b:List Str):addAll acc (a++b)=addAll (addAll acc a) b:=by
  induction a generalizing acc with
  | nil=>rfl
  | cons x r ih =>
    simp only [List.cons_append,addAll]
    split <;> exact ih _
def Tm.firsts (t:Tm):List Str:=addAll [] t.bl
mutual
def Tm.rp:Tm->List Tm
  | .num n=>[.num n]
  | .name w=>[.name w]
  | .blank w=>[.blank w]
  | .thing w ps=>.thing w ps::rpL ps
def rpL:List Tm->List Tm
  | []=>[]
  | p::r=>rpL r++p.rp
end
theorem rpL_append (a b:List Tm):rpL (a++b)=rpL b++rpL a:=by
  induction a with
  | nil=>simp [rpL]
  | cons x r ih=>simp only [List.cons_append,rpL,ih,List.append_assoc]
def Tm.b1:Tm->List Str
  | .blank w=>[w]
  | _=>[]
theorem b1_rp (t:Tm):(t.rp.reverse.flatMap Tm.b1)=t.bl:=by
  induction t using Tm.ind with
  | h1 n=>rfl
  | h2 n=>rfl
  | h3 n=>rfl
  | h4 w ps ih =>
    have h:∀ l:List Tm,(∀ p∈l,p.rp.reverse.flatMap Tm.b1=p.bl)->(rpL l).reverse.flatMap Tm.b1=blL l:=by
      intro l
      induction l with
      | nil=>intro _;rfl
      | cons p r ih2 =>
        intro hp
        simp only [rpL,List.reverse_append,List.flatMap_append,blL]
        rw [hp p (by simp),ih2 fun q hq=>hp q (by simp [hq])]
    simp only [Tm.rp,List.reverse_cons,List.flatMap_append,h ps ih,Tm.bl]
    simp [Tm.b1]
theorem len_rp (t:Tm):t.rp.length=t.nodes:=by
  induction t using Tm.ind with
  | h1 n=>rfl
  | h2 n=>rfl
  | h3 n=>rfl
  | h4 w ps ih =>
    have h:∀ l:List Tm,(∀ p∈l,p.rp.length=p.nodes)->(rpL l).length=nodesL l:=by
      intro l
      induction l with
      | nil=>intro _;rfl
      | cons p r ih2 =>
        intro hp
        simp only [rpL,zLA,nodesL]
        rw [hp p (by simp),ih2 fun q hq=>hp q (by simp [hq])]
        omega
    simp only [Tm.rp,zLC,h ps ih,Tm.nodes]
    omega
theorem len_bl (t:Tm):t.bl.length<=t.nodes:=by
  induction t using Tm.ind with
  | h1 n=>simp [Tm.bl,Tm.nodes]
  | h2 n=>simp [Tm.bl,Tm.nodes]
  | h3 n=>simp [Tm.bl,Tm.nodes]
  | h4 w ps ih =>
    have h:∀ l:List Tm,(∀ p∈l,p.bl.length<=p.nodes)->(blL l).length<=nodesL l:=by
      intro l
      induction l with
      | nil=>intro _;simp [blL]
      | cons p r ih2 =>
        intro hp
        have:=hp p (by simp)
        have:=ih2 fun q hq=>hp q (by simp [hq])
        simp only [blL,zLA,nodesL]
        omega
    have:=h ps ih
    simp only [Tm.bl,Tm.nodes]
    omega
end BF
namespace BF
open PySem
abbrev Fl:=List (Str×Tm)
def look (f:Fl) (w:Str):Option Tm:=(f.find? fun p=>decide (p.1=w)).map (·.2)
mutual
def Tm.fill (f:Fl):Tm->Tm
  | .num n=>.num n
  | .name w=>.name w
  | .blank w=>(look f w).getD (.blank w)
  | .thing w ps=>.thing w (fillL f ps)
def fillL (f:Fl):List Tm->List Tm
  | []=>[]
  | p::r=>p.fill f::fillL f r
end
theorem fillL_map (f:Fl) (ps:List Tm):fillL f ps=ps.map (Tm.fill f):=by
  induction ps with
  | nil=>rfl
  | cons p r ih=>simp only [fillL,ih,List.map_cons]
theorem fillL_len (f:Fl) (ps:List Tm):(fillL f ps).length=ps.length:=by rw [fillL_map,zLM]
mutual
def Tm.lp:Tm->List Tm
  | .num n=>[.num n]
  | .name w=>[.name w]
  | .blank w=>[.blank w]
  | .thing w ps=>.thing w ps::lpL ps
def lpL:List Tm->List Tm
  | []=>[]
  | p::r=>p.lp++lpL r
end
theorem lpL_append (a b:List Tm):lpL (a++b)=lpL a++lpL b:=by
  induction a with
  | nil=>rfl
  | cons x r ih=>simp only [List.cons_append,lpL,ih,List.append_assoc]
theorem lpL_len_of {ps:List Tm}(h:∀ p∈ps,p.lp.length=p.nodes):(lpL ps).length=nodesL ps:=by
  induction ps with
  | nil=>rfl
  | cons p r ih =>
    simp only [lpL,nodesL,zLA]
    rw [h p List.mem_cons_self,ih fun q hq=>h q (List.mem_cons_of_mem _ hq)]
theorem lp_len (t:Tm):t.lp.length=t.nodes:=by
  induction t using Tm.ind with
  | h1 n=>rfl
  | h2 n=>rfl
  | h3 n=>rfl
  | h4 w ps ih=>simp only [Tm.lp,Tm.nodes,zLC,lpL_len_of ih];omega
def fturn (f:Fl) (made:List Tm):Tm->List Tm
  | .num n=>made++[.num n]
  | .name w=>made++[.name w]
  | .blank w=>made++[(look f w).getD (.blank w)]
  | .thing w ps=>made.take (made.length - ps.length)++[.thing w (made.drop (made.length - ps.length)).reverse]
def frun (f:Fl):List Tm->List Tm->List Tm
  | made,[]=>made
  | made,t::r=>frun f (fturn f made t) r
theorem frun_append (f:Fl):∀ (a made b:List Tm),frun f made (a++b)=frun f (frun f made a) b
  | [],_,_=>rfl
  | x::r,made,b=>frun_append f r _ b
theorem frunL_of (f:Fl) {ps:List Tm}(h:∀ p∈ps,∀ made,frun f made p.lp.reverse=made++[p.fill f]):∀ made,frun f made (lpL ps).reverse=made++(fillL f ps).reverse:=by
  induction ps with
  | nil=>intro made;simp [lpL,fillL,frun]
  | cons p r ih =>
    intro made
    simp only [lpL,fillL,List.reverse_append,List.reverse_cons]
    rw [frun_append,ih (fun q hq=>h q (List.mem_cons_of_mem _ hq)) made,h p List.mem_cons_self,List.append_assoc]
theorem frun_lp (f:Fl) (t:Tm):∀ made,frun f made t.lp.reverse=made++[t.fill f]:=by
  induction t using Tm.ind with
  | h1 n=>intro made;rfl
  | h2 n=>intro made;rfl
  | h3 n=>intro made;rfl
  | h4 w ps ih =>
    intro made
    simp only [Tm.lp,List.reverse_cons]
    rw [frun_append,frunL_of f ih made]
    simp only [frun,fturn,Tm.fill]
    have e:(made++(fillL f ps).reverse).length - ps.length=made.length:=by simp [fillL_len]
    rw [e]
    simp
theorem look_mem {f:Fl}{w:Str}{t:Tm}(h:look f w=some t):(w,t)∈f:=by
  unfold look at h
  cases e:f.find? (fun p=>decide (p.1=w)) with
  | none=>rw [e] at h;cases h
  | some p =>
    rw [e] at h
    have h1:=List.mem_of_find?_eq_some e
    have h2:=List.find?_some e
    simp only [decide_eq_true_eq] at h2
    obtain ⟨a,b⟩:=p
    simp only [Option.map_some,Option.some.injEq] at h h2
    subst h h2
    exact h1
def Fit:Nat->List Tm->Prop
  | _,[]=>True
  | m,.thing _ ps::r=>ps.length<=m/\Fit (m - ps.length+1) r
  | m,_::r=>Fit (m+1) r
theorem fitL_of {ps:List Tm}(h:∀ p∈ps,∀ m r,Fit m (p.lp.reverse++r)↔Fit (m+1) r):∀ m r,Fit m ((lpL ps).reverse++r)↔Fit (m+ps.length) r:=by
  induction ps with
  | nil=>intro m r;simp [lpL]
  | cons p q ih =>
    intro m r
    simp only [lpL,List.reverse_append,List.append_assoc,zLC]
    rw [ih (fun x hx=>h x (List.mem_cons_of_mem _ hx)),h p List.mem_cons_self]
    have e:m+q.length+1=m+(q.length+1):=by omega
    rw [e]
theorem fit_lp (t:Tm):∀ m r,Fit m (t.lp.reverse++r)↔Fit (m+1) r:=by
  induction t using Tm.ind with
  | h1 n=>intro m r;simp [Tm.lp,Fit]
  | h2 n=>intro m r;simp [Tm.lp,Fit]
  | h3 n=>intro m r;simp [Tm.lp,Fit]
  | h4 w ps ih =>
    intro m r
    simp only [Tm.lp,List.reverse_cons,List.append_assoc,List.singleton_append]
    rw [fitL_of ih]
    simp only [Fit]
    have e:m+ps.length - ps.length+1=m+1:=by omega
    rw [e]
    exact ⟨fun h=>h.2,fun h=>⟨by omega,h⟩⟩
theorem fit_all (t:Tm):Fit 0 t.lp.reverse:=by
  have:=(fit_lp t 0 []).mpr trivial
  simpa using this
end BF
namespace BF
open PySem
end BF
namespace BF
open PySem PySem.Spec PyProof.Rows L2
def FillAt (H:Hp) (ps:List V) (f:Fl):Prop:=Paired (fun x p=>∃ a v,x=.ref a/\H a=some (.tup [.str p.1,v])/\TermAt H v p.2) ps f
def DOf (H:Hp) (kvs:List (Key×V)) (f:Fl):Prop:=∀ w:Str,(look f w=none->valV kvs (Sum.inr w)=none)/\∀ t,look f w=some t->∃ v,valV kvs (Sum.inr w)=some v/\TermAt H v t
theorem paired_mono {α β:Type}{F G:α->β->Prop}(h:∀ a b,F a b->G a b):∀ {l:List α}{m:List β},Paired F l m->Paired G l m
  | _,_,.nil=>.nil
  | _,_,.cons a r=>.cons (h _ _ a) (paired_mono h r)
theorem FillAt.mono {H H':Hp}{ps:List V}{f:Fl}(k:TSame H H') (h:FillAt H ps f):FillAt H' ps f:=paired_mono (fun _ _ ⟨a,v,e,h1,h2⟩=>⟨a,v,e,k _ _ h1,h2.mono k⟩) h
theorem DOf.mono {H H':Hp}{kvs:List (Key×V)}{f:Fl}(k:TSame H H') (h:DOf H kvs f):DOf H' kvs f:=fun w=>⟨(h w).1,fun t ht=>let ⟨v,h1,h2⟩:=(h w).2 t ht;⟨v,h1,h2.mono k⟩⟩
theorem FillAt.len {H:Hp}{ps:List V}{f:Fl}(h:FillAt H ps f):ps.length=f.length:=Paired.length h
theorem valV_cons (p:Key×V) (r:List (Key×V)) (k:Key):valV (p::r) k=if p.1=k then some p.2 else valV r k:=by
  by_cases e:p.1=k
  · rw [if_pos e,valV_pos e]
  · rw [if_neg e,valV_neg e]
theorem look_cons (p:Str×Tm) (r:Fl) (w:Str):look (p::r) w=if p.1=w then some p.2 else look r w:=by
  unfold look
  rw [List.find?_cons]
  by_cases e:p.1=w
  · simp [e]
  · simp [e]
theorem FillAt.get {H:Hp}{ps:List V}{f:Fl}(h:FillAt H ps f) (i:Nat) (h1:i<ps.length) (h2:i<f.length):∃ a v,ps[i]=.ref a/\H a=some (.tup [.str f[i].1,v])/\TermAt H v f[i].2:=by
  obtain ⟨b,hb,hp⟩:=pair_get h (List.getElem?_eq_getElem h1)
  rw [List.getElem?_eq_getElem h2] at hb
  cases hb
  exact hp
theorem FillAt.app {H:Hp}{ps:List V}{f:Fl}{x:V}{p:Str×Tm}(h:FillAt H ps f) (hx:∃ a v,x=.ref a/\H a=some (.tup [.str p.1,v])/\TermAt H v p.2):FillAt H (ps++[x]) (f++[p]):=Paired.snoc h hx
def SameX (p:Addr) (H H':Hp):Prop:=∀ b o,b≠p->H b=some o->H' b=some o
end BF
namespace BF
open PySem
def isOwn (t:Tm) (w:Str):Bool:=match t with
  | .blank x=>decide (x=w)
  | _=>false
theorem isOwn_iff (t:Tm) (w:Str):isOwn t w=true↔t=.blank w:=by
  cases t with
  | blank x=>simp [isOwn]
  | _=>simp [isOwn]
def nrm (f:Fl):List Str->Fl
  | []=>[]
  | w::r=>(match look f w with | some t=>if isOwn t w=true then [] else [(w,t)] | none=>[])++nrm f r
theorem nrm_mem {f:Fl}:∀ {ss:List Str}{p:Str×Tm},p∈nrm f ss->p.1∈ss/\look f p.1=some p.2/\p.2≠.blank p.1
  | [],_,h=>by simp [nrm] at h
  | w :: r,p,h=>by
    simp only [nrm] at h
    rcases List.mem_append.mp h with h | h
    · cases e:look f w with
      | none=>rw [e] at h;simp at h
      | some t =>
        rw [e] at h
        by_cases c:isOwn t w=true
        · simp [c] at h
        · simp only [c,Bool.false_eq_true,if_false,List.mem_singleton] at h
          subst h
          exact ⟨List.mem_cons_self,e,fun z=>c ((isOwn_iff _ _).mpr z)⟩
    · obtain ⟨a,b⟩:=nrm_mem h
      exact ⟨List.mem_cons_of_mem _ a,b⟩
theorem nrm_rise {f:Fl}:∀ {ss:List Str},ss.Pairwise (fun a b=>a.cps.toList<b.cps.toList)->(nrm f ss).Pairwise (fun p q=>p.1.cps.toList<q.1.cps.toList)
  | [],_=>.nil
  | w :: r,h=>by
    simp only [nrm]
    rw [List.pairwise_append]
    obtain ⟨h1,h2⟩:=List.pairwise_cons.mp h
    refine ⟨?_,nrm_rise h2,fun p hp q hq=>?_⟩
    · split
      · split
        · exact .nil
        · exact List.pairwise_singleton _ _
      · exact .nil
    · have e:p.1=w:=by
        split at hp
        · split at hp
          · simp at hp
          · simp only [List.mem_singleton] at hp;rw [hp]
        · simp at hp
      rw [e]
      exact h1 _ (nrm_mem hq).1
theorem look_append (a b:Fl) (w:Str):look (a++b) w=(look a w).or (look b w):=by
  unfold look
  rw [List.find?_append]
  cases a.find? (fun p=>decide (p.1=w)) <;> rfl
theorem look_nrm {f:Fl}:∀ {ss:List Str}{w:Str},w∈ss->(look (nrm f ss) w).getD (.blank w)=(look f w).getD (.blank w)
  | [],_,h=>by simp at h
  | x :: r, w,h=>by
    simp only [nrm]
    rw [look_append]
    by_cases e:x=w
    · subst e
      cases hx:look f x with
      | none =>
        simp only
        rw [show look ([]:Fl) x=none from rfl,Option.none_or]
        by_cases hr:x∈r
        · rw [look_nrm hr,hx]
        · have:look (nrm f r) x=none:=by
            cases e:look (nrm f r) x with
            | none=>rfl
            | some t=>exact absurd (nrm_mem (look_mem e)).1 hr
          rw [this]
      | some t =>
        by_cases c:isOwn t x=true
        · simp only [c,if_true]
          rw [show look ([]:Fl) x=none from rfl,Option.none_or]
          have et:=(isOwn_iff _ _).mp c
          have:look (nrm f r) x=none:=by
            cases e:look (nrm f r) x with
            | none=>rfl
            | some t' =>
              have:=(nrm_mem (look_mem e)).2
              rw [hx] at this
              exact absurd et (by rw [Option.some.inj this.1];exact this.2)
          rw [this,et]
          rfl
        · simp only [c,Bool.false_eq_true,if_false]
          have:look [(x,t)] x=some t:=by simp [look]
          rw [this]
          rfl
    · have hr:w∈r:=by
        rcases List.mem_cons.mp h with z | z
        · exact absurd z.symm e
        · exact z
      have:look (match look f x with | some t=>if isOwn t x=true then [] else [(x,t)] | none=>[]) w=none:=by
        split
        · split
          · rfl
          · simp [look,e]
        · rfl
      rw [this,Option.none_or]
      exact look_nrm hr
theorem look_nrm_out {f:Fl}{ss:List Str}{w:Str}(h:w∉ss):look (nrm f ss) w=none:=by
  cases e:look (nrm f ss) w with
  | none=>rfl
  | some t=>exact absurd (nrm_mem (look_mem e)).1 h
theorem look_in {f:Fl}{w:Str}(h:w∈f.map (·.1)):∃ t,look f w=some t:=by
  induction f with
  | nil=>simp at h
  | cons p r ih =>
    by_cases e:p.1=w
    · exact ⟨p.2,by simp [look,e]⟩
    · rw [List.map_cons] at h
      rcases List.mem_cons.mp h with z | z
      · exact absurd z.symm e
      · obtain ⟨t,ht⟩:=ih z
        exact ⟨t,by simpa [look,e] using ht⟩
theorem look_out {f:Fl}{w:Str}(h:w∉f.map (·.1)):look f w=none:=by
  cases e:look f w with
  | none=>rfl
  | some t=>exact absurd (List.mem_map.mpr ⟨_,look_mem e,rfl⟩) h
def gturn (f:Fl) (made:List Tm):Tm->List Tm
  | .num n=>made++[.num n]
  | .name w=>made++[.name w]
  | .blank w=>made++[(look f w).getD (.blank w)]
  | .thing w ps=>made.take (made.length - ps.length)++[.thing w (made.drop (made.length - ps.length))]
def grun (f:Fl):List Tm->List Tm->List Tm
  | made,[]=>made
  | made,t::r=>grun f (gturn f made t) r
theorem grun_append (f:Fl):∀ (a made b:List Tm),grun f made (a++b)=grun f (grun f made a) b
  | [],_,_=>rfl
  | x::r,made,b=>grun_append f r _ b
theorem grunL_of (f:Fl) {ps:List Tm}(h:∀ p∈ps,∀ made,grun f made p.rp.reverse=made++[p.fill f]):∀ made,grun f made (rpL ps).reverse=made++fillL f ps:=by
  induction ps with
  | nil=>intro made;simp [rpL,fillL,grun]
  | cons p r ih =>
    intro made
    simp only [rpL,fillL,List.reverse_append]
    rw [grun_append,h p List.mem_cons_self,ih (fun q hq=>h q (List.mem_cons_of_mem _ hq))]
    simp
theorem grun_rp (f:Fl) (t:Tm):∀ made,grun f made t.rp.reverse=made++[t.fill f]:=by
  induction t using Tm.ind with
  | h1 n=>intro made;rfl
  | h2 n=>intro made;rfl
  | h3 n=>intro made;rfl
  | h4 w ps ih =>
    intro made
    simp only [Tm.rp,List.reverse_cons]
    rw [grun_append,grunL_of f ih made]
    simp only [grun,gturn,Tm.fill]
    have e:(made++fillL f ps).length - ps.length=made.length:=by simp [fillL_len]
    rw [e]
    simp
theorem fitL_rp {ps:List Tm}(h:∀ p∈ps,∀ m r,Fit m (p.rp.reverse++r)↔Fit (m+1) r):∀ m r,Fit m ((rpL ps).reverse++r)↔Fit (m+ps.length) r:=by
  induction ps with
  | nil=>intro m r;simp [rpL]
  | cons p q ih =>
    intro m r
    simp only [rpL,List.reverse_append,List.append_assoc,zLC]
    rw [h p List.mem_cons_self,ih (fun x hx=>h x (List.mem_cons_of_mem _ hx))]
    have e:m+1+q.length=m+(q.length+1):=by omega
    rw [e]
theorem fit_rp (t:Tm):∀ m r,Fit m (t.rp.reverse++r)↔Fit (m+1) r:=by
  induction t using Tm.ind with
  | h1 n=>intro m r;simp [Tm.rp,Fit]
  | h2 n=>intro m r;simp [Tm.rp,Fit]
  | h3 n=>intro m r;simp [Tm.rp,Fit]
  | h4 w ps ih =>
    intro m r
    simp only [Tm.rp,List.reverse_cons,List.append_assoc,List.singleton_append]
    rw [fitL_rp ih]
    simp only [Fit]
    have e:m+ps.length - ps.length+1=m+1:=by omega
    rw [e]
    exact ⟨fun h=>h.2,fun h=>⟨by omega,h⟩⟩
theorem fit_rall (t:Tm):Fit 0 t.rp.reverse:=by
  have:=(fit_rp t 0 []).mpr trivial
  simpa using this
mutual
def Tm.dp:Tm->Nat
  | .num _=>1
  | .name _=>1
  | .blank _=>1
  | .thing _ ps=>1+dpL ps
def dpL:List Tm->Nat
  | []=>0
  | p::r=>max p.dp (dpL r)
end
theorem dpL_le {n:Nat}:∀ {l:List Tm},(∀ t∈l,t.dp<=n)->dpL l<=n
  | [],_=>by simp [dpL]
  | t::r,h=>by
    have h1:=h t List.mem_cons_self
    have h2:=dpL_le (l:=r) fun x hx=>h x (List.mem_cons_of_mem _ hx)
    simp only [dpL];omega
theorem dp_mem {t:Tm}:∀ {l:List Tm},t∈l->t.dp<=dpL l
  | x::r,h=>by
    rcases List.mem_cons.mp h with rfl | h
    · simp only [dpL];omega
    · have:=dp_mem h;simp only [dpL];omega
theorem dp_nodes (t:Tm):t.dp<=t.nodes:=by
  induction t using Tm.ind with
  | h1 n=>simp [Tm.dp,Tm.nodes]
  | h2 n=>simp [Tm.dp,Tm.nodes]
  | h3 n=>simp [Tm.dp,Tm.nodes]
  | h4 w ps ih =>
    have:dpL ps<=nodesL ps:=dpL_le fun p hp=>Nat.le_trans (ih p hp) (nodes_mem hp)
    simp only [Tm.dp,Tm.nodes];omega
theorem dep_dp (t:Tm):t.dt.dep<=2 * t.dp:=by
  induction t using Tm.ind with
  | h1 n=>simp [Tm.dt,Dt.dep,depL,Tm.dp]
  | h2 n=>simp [Tm.dt,Dt.dep,depL,Tm.dp]
  | h3 n=>simp [Tm.dt,Dt.dep,depL,Tm.dp]
  | h4 w ps ih =>
    have:depL (dtL ps)<=2 * dpL ps:=by
      rw [dtL_map]
      refine depL_le fun d hd=>?_
      obtain ⟨p,hp,rfl⟩:=List.mem_map.mp hd
      have:=ih p hp
      have:=dp_mem hp
      omega
    simp only [Tm.dt,Dt.dep,depL,Tm.dp]
    omega
end BF
namespace BF
open PySem PySem.Spec PyProof.Rows L2
def KvsAt (H:Hp) (kvs:List (Key×V)) (f:Fl):Prop:=Paired (fun kv p=>kv.1=Sum.inr p.1/\TermAt H kv.2 p.2) kvs f
theorem KvsAt.mono {H H':Hp}{kvs:List (Key×V)}{f:Fl}(k:TSame H H') (h:KvsAt H kvs f):KvsAt H' kvs f:=paired_mono (fun _ _ ⟨e,h2⟩=>⟨e,h2.mono k⟩) h
theorem KvsAt.len {H:Hp}{kvs:List (Key×V)}{f:Fl}(h:KvsAt H kvs f):kvs.length=f.length:=Paired.length h
theorem KvsAt.keys {H:Hp}:∀ {kvs:List (Key×V)}{f:Fl},KvsAt H kvs f->kvs.map (·.1)=(f.map (·.1)).map Sum.inr
  | _,_,.nil=>rfl
  | _::_,_::_,.cons h r=>by
    simp only [List.map_cons]
    rw [h.1,KvsAt.keys r]
theorem KvsAt.dof {H:Hp}:∀ {kvs:List (Key×V)}{f:Fl},KvsAt H kvs f->DOf H kvs f
  | _,_,.nil=>fun w=>⟨fun _=>rfl,fun t h=>by simp [look] at h⟩
  | kv::_,p::_,.cons h r=>fun w=>by
    have ih:=KvsAt.dof r w
    rw [look_cons,valV_cons,h.1]
    by_cases c:p.1=w
    · rw [if_pos c,if_pos (by rw [c])]
      exact ⟨fun z=>(by cases z),fun t z=>⟨kv.2,rfl,by cases z;exact h.2⟩⟩
    · rw [if_neg c,if_neg (fun z=>c (Sum.inr.inj z))]
      exact ih
section
variable {X:Cx}
theorem op_eqTd:OpR X (compareOp .Eq) (fun x y H Q=>∃ t u,TermAt H x t/\TermAt H y u/\X.A.units+t.dt.dep<cLine/\∀ b,(b=true↔t=u)->Q (.bl b) H):=by
  intro pins s σ H x y v u Q I rx ry h
  obtain ⟨t,t',h,h',hu,q⟩:=h
  obtain ⟨l,e⟩:=t.isTup
  obtain ⟨m,e'⟩:=t'.isTup
  refine op_eqT pins s σ H x y v u Q I rx ry ⟨l,m,by rw [<- e];exact h,by rw [<- e'];exact h',by rw [<- e];exact hu,fun b hb=>q b (hb.trans ?_)⟩
  constructor
  · intro z;exact Tm.dt_inj _ _ (by rw [e,e',z])
  · rintro rfl;rw [e] at e';cases e';rfl
theorem op_neTd:OpR X (compareOp .NotEq) (fun x y H Q=>∃ t u,TermAt H x t/\TermAt H y u/\X.A.units+t.dt.dep<cLine/\∀ b,(b=true↔¬ t=u)->Q (.bl b) H):=by
  intro pins s σ H x y v u Q I rx ry h
  obtain ⟨t,t',h,h',hu,q⟩:=h
  obtain ⟨l,e⟩:=t.isTup
  obtain ⟨m,e'⟩:=t'.isTup
  refine op_neT pins s σ H x y v u Q I rx ry ⟨l,m,by rw [<- e];exact h,by rw [<- e'];exact h',by rw [<- e];exact hu,fun b hb=>q b (hb.trans (not_congr ?_))⟩
  constructor
  · intro z;exact Tm.dt_inj _ _ (by rw [e,e',z])
  · rintro rfl;rw [e] at e';cases e';rfl
end
theorem nrm_snoc (f:Fl):∀ (a:List Str) (w:Str),nrm f (a++[w])=nrm f a++nrm f [w]
  | [],w=>rfl
  | x::r,w=>by
    rw [List.cons_append]
    show _++nrm f (r++[w])=(_++nrm f r)++nrm f [w]
    rw [nrm_snoc f r w,List.append_assoc]
theorem nrm_own {f:Fl}{w:Str}{t:Tm}(h:look f w=some t) (c:t=.blank w):nrm f [w]=[]:=by
  have:isOwn t w=true:=(isOwn_iff _ _).mpr c
  simp only [nrm,h,this,if_true,List.append_nil]
theorem nrm_not {f:Fl}{w:Str}{t:Tm}(h:look f w=some t) (c:¬ t=.blank w):nrm f [w]=[(w,t)]:=by
  have:isOwn t w=false:=Bool.eq_false_iff.mpr fun z=>c ((isOwn_iff _ _).mp z)
  simp only [nrm,h,this,Bool.false_eq_true,if_false,List.append_nil]
theorem str_ext2 {x y:Str}(h:x.cps.toList=y.cps.toList):x=y:=by
  obtain ⟨⟨a⟩⟩:=x
  obtain ⟨⟨b⟩⟩:=y
  have h':a=b:=h
  rw [h']
theorem strict_of {ss ws:List Str}(hp:ss.Perm ws) (hn:ws.Nodup) (h:ss.Pairwise fun a b=>¬ b.cps.toList<a.cps.toList):ss.Pairwise fun a b=>a.cps.toList<b.cps.toList:=by
  have hn':ss.Nodup:=hp.nodup_iff.mpr hn
  refine (List.Pairwise.and h hn').imp ?_
  rintro a b ⟨h1,h2⟩
  rcases List.le_iff_lt_or_eq.mp (List.not_lt.mp h1) with z | z
  · exact z
  · exact absurd (str_ext2 z) h2
end BF
namespace BF
open PySem
def isB:Tm->Bool | .blank _=>true | _=>false
def isT:Tm->Bool | .thing _ _=>true | _=>false
theorem mem_addAll {w:Str}:∀ {l acc:List Str},w∈addAll acc l↔w∈acc\/w∈l
  | [],acc=>by simp [addAll]
  | x :: r,acc=>by
    simp only [addAll]
    split
    · next h =>
      rw [mem_addAll]
      constructor
      · rintro (a | a)
        · exact .inl a
        · exact .inr (List.mem_cons_of_mem _ a)
      · rintro (a | a)
        · exact .inl a
        · rcases List.mem_cons.mp a with rfl | a
          · exact .inl h
          · exact .inr a
    · rw [mem_addAll,List.mem_append,List.mem_singleton,List.mem_cons]
      constructor
      · rintro ((a | a) | a)
        · exact .inl a
        · exact .inr (.inl a)
        · exact .inr (.inr a)
      · rintro (a | a | a)
        · exact .inl (.inl a)
        · exact .inl (.inr a)
        · exact .inr a
theorem mem_firsts {w:Str}{t:Tm}:w∈t.firsts↔w∈t.bl:=by
  unfold Tm.firsts
  rw [mem_addAll]
  simp
theorem mem_b1 {w:Str}{t:Tm}:w∈t.b1↔t=.blank w:=by
  cases t with
  | blank x=>simp only [Tm.b1,List.mem_singleton,Tm.blank.injEq];exact eq_comm
  | _=>simp [Tm.b1]
theorem mem_rp_blank {w:Str}{t:Tm}:Tm.blank w∈t.rp.reverse↔w∈t.bl:=by
  rw [<- b1_rp,List.mem_flatMap]
  constructor
  · intro h;exact ⟨_,h,mem_b1.mpr rfl⟩
  · rintro ⟨p,hp,hw⟩
    rw [<- mem_b1.mp hw]
    exact hp
theorem lpL_bl_of {ps:List Tm}(h:∀ p∈ps,p.lp.flatMap Tm.b1=p.bl):(lpL ps).flatMap Tm.b1=blL ps:=by
  induction ps with
  | nil=>rfl
  | cons p r ih=>simp only [lpL,blL,List.flatMap_append,h p List.mem_cons_self,ih fun q hq=>h q (List.mem_cons_of_mem _ hq)]
theorem lp_bl (t:Tm):t.lp.flatMap Tm.b1=t.bl:=by
  induction t using Tm.ind with
  | h1 n=>rfl
  | h2 n=>rfl
  | h3 n=>rfl
  | h4 w ps ih =>
    simp only [Tm.lp,Tm.bl,List.flatMap_cons,Tm.b1,List.nil_append]
    exact lpL_bl_of ih
abbrev Ln:=Tm×Tm
def RingOk (R:List Ln):Prop:=(∀ p∈R,isB p.1=true)/\(∀ i (h:i<R.length),∃ w,(R[(i+1) % R.length]'(Nat.mod_lt _ (by omega))).1=.blank w/\w∈(R[i]).2.bl)/\∃ p∈R,isT p.2=true
theorem rpL_nodes_of {ps:List Tm}(h:∀ p∈ps,∀ u∈p.rp,u.nodes<=p.nodes):∀ u∈rpL ps,u.nodes<=nodesL ps:=by
  induction ps with
  | nil=>intro u hu;simp [rpL] at hu
  | cons p r ih =>
    intro u hu
    simp only [rpL] at hu
    simp only [nodesL]
    rcases List.mem_append.mp hu with z | z
    · have:=ih (fun q hq=>h q (List.mem_cons_of_mem _ hq)) u z
      omega
    · have:=h p List.mem_cons_self u z
      omega
theorem rp_nodes {t u:Tm}:u∈t.rp->u.nodes<=t.nodes:=by
  induction t using Tm.ind generalizing u with
  | h1 n=>intro h;simp only [Tm.rp,List.mem_singleton] at h;rw [h];exact Nat.le_refl _
  | h2 n=>intro h;simp only [Tm.rp,List.mem_singleton] at h;rw [h];exact Nat.le_refl _
  | h3 n=>intro h;simp only [Tm.rp,List.mem_singleton] at h;rw [h];exact Nat.le_refl _
  | h4 w ps ih =>
    intro h
    simp only [Tm.rp] at h
    rcases List.mem_cons.mp h with z | z
    · rw [z];exact Nat.le_refl _
    · have:=rpL_nodes_of (fun p hp u hu=>ih p hp hu) u z
      simp only [Tm.nodes]
      omega
end BF
namespace BF
open PySem PySem.Spec PyProof.Rows L2
theorem TermAt.kind {H:Hp}{v:V}{t:Tm}(h:TermAt H v t):∃ a xs k,v=.ref a/\H a=some (.tup (.str k::xs))/\(k="blank"↔isB t=true)/\(k="thing"↔isT t=true):=by
  cases t with
  | num n =>
    obtain ⟨a,rfl,e⟩:=termAt_num.mp h
    exact ⟨a,_,_,rfl,e,by simp [isB,nm_ne2],by simp [isT,nm_ne3]⟩
  | name n =>
    obtain ⟨a,rfl,e⟩:=termAt_name.mp h
    exact ⟨a,_,_,rfl,e,by simp [isB,nm_ne4],by simp [isT,nm_ne5]⟩
  | blank n =>
    obtain ⟨a,rfl,e⟩:=termAt_blank.mp h
    exact ⟨a,_,_,rfl,e,by simp [isB],by simp [isT,nm_ne6]⟩
  | thing n ps =>
    obtain ⟨a,b,vs,rfl,e,_⟩:=termAt_thing.mp h
    exact ⟨a,_,_,rfl,e,by simp [isB,nm_ne6'],by simp [isT]⟩
end BF
namespace BF
open PySem
def callL (k:Nat):List Nat:=[97+k % 3,97+k / 3 % 3,97+k / 9 % 3]++(if 26<k then [97+k / 27 % 26] else [])
theorem callL_wd {x:Str}{k:Nat}(h:x.cps.toList=callL k):Wd x:=by
  unfold Wd
  rw [h]
  unfold callL
  have h1:=Nat.mod_lt k (show 0<3 by decide)
  have h2:=Nat.mod_lt (k / 3) (show 0<3 by decide)
  have h3:=Nat.mod_lt (k / 9) (show 0<3 by decide)
  have h4:=Nat.mod_lt (k / 27) (show 0<26 by decide)
  by_cases c:26<k
  · rw [if_pos c]
    refine ⟨by simp,by simp,fun y hy=>?_⟩
    simp only [List.cons_append,List.nil_append,List.mem_cons,List.not_mem_nil,or_false] at hy
    omega
  · rw [if_neg c]
    refine ⟨by simp,by simp,fun y hy=>?_⟩
    simp only [List.append_nil,List.mem_cons,List.not_mem_nil,or_false] at hy
    omega
theorem callL_inj {j k:Nat}(hj:j<700) (hk:k<700) (h:callL j=callL k):j=k:=by
  unfold callL at h
  simp only [List.cons_append,List.nil_append,List.cons.injEq] at h
  obtain ⟨h1,h2,h3,h4⟩:=h
  by_cases c:26<j
  · by_cases d:26<k
    · rw [if_pos c,if_pos d] at h4
      simp only [List.cons.injEq,and_true] at h4
      omega
    · rw [if_pos c,if_neg d] at h4
      cases h4
  · by_cases d:26<k
    · rw [if_neg c,if_pos d] at h4
      cases h4
    · omega
def FirstX (w:Str):Prop:=∃ c r,w.cps.toList=c::r/\120<=c/\r.length<=38
theorem firstX_lits:FirstX "x"/\FirstX "y"/\FirstX "z":=by
  unfold FirstX
  exact ⟨⟨120,[],by decide +kernel,by decide,by decide⟩,⟨121,[],by decide +kernel,by decide,by decide⟩,⟨122,[],by decide +kernel,by decide,by decide⟩⟩
theorem firstX_zz (x:Str) (hl:x.cps.toList.length<=30):FirstX ((("zz":Str))++x):=by
  refine ⟨122,122::x.cps.toList,?_,by decide,by rw [zLC];omega⟩
  rw [cps_append]
  have e:(("zz":Str)).cps.toList=[122,122]:=by decide +kernel
  rw [e]
  rfl
theorem firstX_not {w:Str}{k:Nat}(h:FirstX w):w.cps.toList≠callL k:=by
  obtain ⟨c,r,e,hc,_⟩:=h
  rw [e]
  unfold callL
  intro z
  simp only [List.cons_append,List.cons.injEq] at z
  omega
def LfX:Tm->Prop
  | .blank w=>FirstX w
  | .thing _ _=>False
  | _=>True
def HidIn (m:Nat) (seen:List Tm) (t p:Tm):Prop:=∃ x i,p=.blank x/\x.cps.toList=callL (i % m)/\seen[i]?=some t
mutual
def Hid (m:Nat) (seen:List Tm):Tm->Tm->Prop
  | .num n,p=>HidIn m seen (.num n) p\/p=.num n
  | .name w,p=>HidIn m seen (.name w) p\/p=.name w
  | .blank w,p=>HidIn m seen (.blank w) p\/(p=.blank w/\FirstX w)
  | .thing w ts,p=>HidIn m seen (.thing w ts) p\/∃ ps,p=.thing w ps/\HidL m seen ts ps
def HidL (m:Nat) (seen:List Tm):List Tm->List Tm->Prop
  | [],ps=>ps=[]
  | t::ts,ps=>∃ p r,ps=p::r/\Hid m seen t p/\HidL m seen ts r
end
theorem Hid.inn {m:Nat}{seen:List Tm}{t p:Tm}(h:HidIn m seen t p):Hid m seen t p:=by
  cases t <;> simp only [Hid] <;> exact .inl h
theorem Hid.leaf {m:Nat}{seen:List Tm}{t:Tm}(h:LfX t):Hid m seen t t:=by
  cases t with
  | thing w ts=>exact h.elim
  | blank w=>simp only [Hid];exact .inr ⟨trivial,h⟩
  | num n=>simp [Hid]
  | name w=>simp [Hid]
theorem Hid.thing {m:Nat}{seen:List Tm}{w:Str}{ts ps:List Tm}(h:HidL m seen ts ps):Hid m seen (.thing w ts) (.thing w ps):=by
  simp only [Hid]
  exact .inr ⟨ps,rfl,h⟩
theorem hidIn_app {m:Nat}{seen:List Tm}{t p u:Tm}(h:HidIn m seen t p):HidIn m (seen++[u]) t p:=by
  obtain ⟨x,i,e,h1,h2⟩:=h
  refine ⟨x,i,e,h1,?_⟩
  rw [List.getElem?_append_left (List.getElem?_eq_some_iff.mp h2).1]
  exact h2
theorem hidL_app_of {m:Nat}{seen:List Tm}{u:Tm}:∀ {ts:List Tm},(∀ t∈ts,∀ p,Hid m seen t p->Hid m (seen++[u]) t p)->∀ {ps},HidL m seen ts ps->HidL m (seen++[u]) ts ps
  | [],_,ps,h=>by simpa [HidL] using h
  | t::ts,k,ps,h=>by
    simp only [HidL] at h |-
    obtain ⟨p,r,e,h1,h2⟩:=h
    exact ⟨p,r,e,k t List.mem_cons_self p h1,hidL_app_of (fun t ht=>k t (List.mem_cons_of_mem _ ht)) h2⟩
theorem hid_app {m:Nat}{seen:List Tm}{u:Tm}(t:Tm):∀ p,Hid m seen t p->Hid m (seen++[u]) t p:=by
  induction t using Tm.ind with
  | h1 n=>intro p h;simp only [Hid] at h |-;exact h.imp hidIn_app id
  | h2 w=>intro p h;simp only [Hid] at h |-;exact h.imp hidIn_app id
  | h3 w=>intro p h;simp only [Hid] at h |-;exact h.imp hidIn_app id
  | h4 w ps ih=>intro p h;simp only [Hid] at h |-;exact h.imp hidIn_app fun ⟨qs,e,hq⟩=>⟨qs,e,hidL_app_of (fun t ht p=>ih t ht p) hq⟩
abbrev Tri:=Tm×Tm×Tm
def sel:Nat->Tri->Tm
  | 0,d=>d.1
  | 1,d=>d.2.1
  | _,d=>d.2.2
def HidT (m:Nat) (seen:List Tm) (d:Tri):Prop:=Hid m seen d.2.2 d.1/\Hid m seen d.2.2 d.2.1/\d.1.Ok/\d.2.1.Ok/\d.2.2.Ok/\d.1.nodes<=d.2.2.nodes/\d.2.1.nodes<=d.2.2.nodes
theorem HidT.app {m:Nat}{seen:List Tm}{u:Tm}{d:Tri}(h:HidT m seen d):HidT m (seen++[u]) d:=⟨hid_app _ _ h.1,hid_app _ _ h.2.1,h.2.2⟩
theorem HidT.leaf {m:Nat}{seen:List Tm}{t:Tm}(h:LfX t) (ho:t.Ok):HidT m seen (t,t,t):=⟨.leaf h,.leaf h,ho,ho,ho,Nat.le_refl _,Nat.le_refl _⟩
def triN:List Tri->Nat
  | []=>0
  | d::r=>d.2.2.nodes+triN r
theorem triN_append (a b:List Tri):triN (a++b)=triN a+triN b:=by
  induction a with
  | nil=>simp [triN]
  | cons d r ih=>simp only [List.cons_append,triN,ih];omega
theorem triN_take_drop (a:List Tri) (k:Nat):triN (a.take k)+triN (a.drop k)=triN a:=by
  rw [<- triN_append,List.take_append_drop]
theorem triN_len (a:List Tri):a.length<=triN a:=by
  induction a with
  | nil=>simp [triN]
  | cons d r ih=>have:=d.2.2.nodes_pos;simp only [zLC,triN];omega
theorem triN_nodes (a:List Tri):nodesL (a.map (sel 2))=triN a:=by
  induction a with
  | nil=>rfl
  | cons d r ih=>simp only [List.map_cons,nodesL,ih,triN];rfl
theorem hidL_sel {m:Nat}{seen:List Tm}:∀ {a:List Tri},(∀ d∈a,HidT m seen d)->HidL m seen (a.map (sel 2)) (a.map (sel 0))/\HidL m seen (a.map (sel 2)) (a.map (sel 1))/\nodesL (a.map (sel 0))<=triN a/\nodesL (a.map (sel 1))<=triN a/\OkL (a.map (sel 0))/\OkL (a.map (sel 1))/\OkL (a.map (sel 2))
  | [],_=>by simp [HidL,nodesL,OkL,triN]
  | d::r,h=>by
    obtain ⟨i1,i2,i3,i4,i5,i6,i7⟩:=hidL_sel (a:=r) fun d hd=>h d (List.mem_cons_of_mem _ hd)
    obtain ⟨h1,h2,h3,h4,h5,h6,h7⟩:=h d List.mem_cons_self
    simp only [List.map_cons,HidL,nodesL,OkL,triN,sel]
    exact ⟨⟨_,_,rfl,h1,i1⟩,⟨_,_,rfl,h2,i2⟩,by omega,by omega,⟨h3,i5⟩,⟨h4,i6⟩,⟨h5,i7⟩⟩
def thT (w:Str) (a:List Tri):Tri:=(.thing w (a.map (sel 0)),.thing w (a.map (sel 1)),.thing w (a.map (sel 2)))
theorem HidT.th {m:Nat}{seen:List Tm}{w:Str}{a:List Tri}(hw:Wd w) (hn:a≠[]) (h:∀ d∈a,HidT m seen d):HidT m seen (thT w a)/\(thT w a).2.2.nodes=triN a+1:=by
  obtain ⟨i1,i2,i3,i4,i5,i6,i7⟩:=hidL_sel h
  have e:=triN_nodes a
  have ne:∀ k,a.map (sel k)≠[]:=fun k z=>hn (by simpa using z)
  refine ⟨⟨.thing i1,.thing i2,?_,?_,?_,?_,?_⟩,?_⟩
  · simp only [thT,Tm.Ok];exact ⟨hw,ne 0,i5⟩
  · simp only [thT,Tm.Ok];exact ⟨hw,ne 1,i6⟩
  · simp only [thT,Tm.Ok];exact ⟨hw,ne 2,i7⟩
  · simp only [thT,Tm.nodes];omega
  · simp only [thT,Tm.nodes];omega
  · simp only [thT,Tm.nodes];omega
theorem sel_th (k:Nat) (w:Str) (a:List Tri):sel k (thT w a)=.thing w (a.map (sel k)):=by
  match k with
  | 0=>rfl
  | 1=>rfl
  | k+2=>rfl
inductive WR:Int->Str->Str->Prop
  | done {l:Int}{x:Str}:¬ 0<=l->WR l x x
  | step {l:Int}{x y:Str}:0<=l->WR (l / 26 - 1) ((⟨#[97+(l % 26).toNat]⟩:Str)++x) y->WR l x y
theorem WR.det {l:Int}{x y z:Str}(h:WR l x y):WR l x z->y=z:=by
  induction h with
  | done c=>intro k;cases k with
    | done _=>rfl
    | step d _=>exact absurd d c
  | step c _ ih=>intro k;cases k with
    | done d=>exact absurd c d
    | step _ k=>exact ih k
def wst (i:Int):Int:=(if i<0 then -i else i) % 10 ^ 39
def HW (i:Int) (x:Str):Prop:=if i % 7=5 then WR (wst (i / 7)) "" x else if i % 2=0 then x="f" else x="pair"
theorem HW.det {i:Int}{x y:Str}(h:HW i x) (k:HW i y):x=y:=by
  unfold HW at h k
  split at h
  · rename_i c
    rw [if_pos c] at k
    exact h.det k
  · rename_i c
    rw [if_neg c] at k
    split at h
    · rename_i d
      rw [if_pos d] at k
      rw [h,k]
    · rename_i d
      rw [if_neg d] at k
      rw [h,k]
end BF
namespace BF
open PySem PySem.Spec PyProof.Rows L2
theorem paired_take {α β:Type}{F:α->β->Prop}:∀ {l:List α}{m:List β}(n:Nat),Paired F l m->Paired F (l.take n) (m.take n)
  | _,_,0,_=>.nil
  | _,_,_+1,.nil=>.nil
  | _,_,n+1,.cons h r=>.cons h (paired_take n r)
theorem paired_drop {α β:Type}{F:α->β->Prop}:∀ {l:List α}{m:List β}(n:Nat),Paired F l m->Paired F (l.drop n) (m.drop n)
  | _,_,0,h=>h
  | _,_,_+1,.nil=>.nil
  | _,_,n+1,.cons _ r=>paired_drop n r
theorem paired_get {α β:Type}{F:α->β->Prop}:∀ {l:List α}{m:List β},Paired F l m->∀ (i:Nat) (x:α),l[i]?=some x->∃ y,m[i]?=some y/\F x y
  | _,_,.nil,i,x,h=>by simp at h
  | _,_,.cons f r,0,x,h=>by
    simp only [List.getElem?_cons_zero,Option.some.injEq] at h
    subst h
    exact ⟨_,rfl,f⟩
  | _,_,.cons f r,i+1,x,h=>by
    simp only [List.getElem?_cons_succ] at h |-
    exact paired_get r i x h
theorem paired_snoc {α β:Type}{F:α->β->Prop}{x:α}{y:β}:∀ {l:List α}{m:List β},Paired F l m->F x y->Paired F (l++[x]) (m++[y])
  | _,_,.nil,h=>.cons h .nil
  | _,_,.cons f r,h=>.cons f (paired_snoc r h)
def TriAt (H:Hp) (x:V) (d:Tri):Prop:=∃ a x0 x1 x2,x=.ref a/\H a=some (.lst [x0,x1,x2])/\TermAt H x0 d.1/\TermAt H x1 d.2.1/\TermAt H x2 d.2.2
def PileAt (H:Hp) (us:List V) (ds:List Tri):Prop:=Paired (TriAt H) us ds
def Apart (p:Addr) (us:List V):Prop:=∀ x∈us,x≠V.ref p
theorem TriAt.same {H H':Hp}{x:V}{d:Tri}(s:Same H H'):TriAt H x d->TriAt H' x d :=
  fun ⟨a,x0,x1,x2,e,h,h0,h1,h2⟩=>⟨a,x0,x1,x2,e,s _ _ h,h0.mono (.of s),h1.mono (.of s),h2.mono (.of s)⟩
theorem PileAt.same {H H':Hp}{us:List V}{ds:List Tri}(s:Same H H') (h:PileAt H us ds):PileAt H' us ds:=paired_mono (fun _ _ h=>h.same s) h
theorem PileAt.lst {H:Hp}{q:Addr}{ys zs:List V}(hq:H q=some (.lst zs)):∀ {us:List V}{ds:List Tri},Apart q us->PileAt H us ds->PileAt (upd H q (.lst ys)) us ds
  | _,_,_,.nil=>.nil
  | _,_,ap,.cons ⟨a,x0,x1,x2,e,h,h0,h1,h2⟩ r=>.cons
      ⟨a,x0,x1,x2,e,by
        rw [upd_ne (fun z=>ap _ List.mem_cons_self (by rw [e,z]))]
        exact h,h0.mono (.lst hq),h1.mono (.lst hq),h2.mono (.lst hq)⟩ (PileAt.lst hq (fun x hx=>ap x (List.mem_cons_of_mem _ hx)) r)
theorem PileAt.apart {H:Hp}{q:Addr}(hq:H q=none):∀ {us:List V}{ds:List Tri},PileAt H us ds->Apart q us
  | _,_,.nil=>fun _ z=>nomatch z
  | _,_,.cons ⟨a,x0,x1,x2,e,h,_⟩ r=>fun x hx=>by
    rcases List.mem_cons.mp hx with z | z
    · rw [z,e]
      intro z'
      cases z'
      rw [hq] at h
      cases h
    · exact PileAt.apart hq r x z
theorem Apart.sub {p:Addr}{us vs:List V}(h:Apart p us) (k:∀ x∈vs,x∈us):Apart p vs:=fun x hx=>h x (k x hx)
theorem Apart.snoc {p q:Addr}{us:List V}(h:Apart p us) (k:q≠p):Apart p (us++[.ref q]):=fun x hx=>by
  rcases List.mem_append.mp hx with z | z
  · exact h x z
  · cases List.mem_singleton.mp z
    intro z'
    cases z'
    exact k rfl
theorem tri_sel {H:Hp}{x:V}{d:Tri}(h:TriAt H x d) (k:Nat) (hk:k<3):∃ a xs v,x=.ref a/\H a=some (.lst xs)/\atI xs ((k:Nat):Int)=some v/\TermAt H v (sel k d):=by
  obtain ⟨a,x0,x1,x2,e,h,h0,h1,h2⟩:=h
  have hz:k=0\/k=1\/k=2:=by omega
  rcases hz with rfl | rfl | rfl
  · exact ⟨a,_,x0,e,h,rfl,h0⟩
  · exact ⟨a,_,x1,e,h,rfl,h1⟩
  · exact ⟨a,_,x2,e,h,rfl,h2⟩
theorem first_place {α:Type}{x:α}:∀ {l:List α},x∈l->∃ j,∃ h:j<l.length,l[j]=x/\∀ i (h':i<l.length),i<j->l[i]≠x
  | a :: l,h=>by
    by_cases c:a=x
    · exact ⟨0,by simp,c,fun i _ z=>by omega⟩
    · have hm:x∈l:=by
        rcases List.mem_cons.mp h with z | z
        · exact absurd z.symm c
        · exact z
      obtain ⟨j,hj,e,k⟩:=first_place hm
      refine ⟨j+1,by simp only [zLC];omega,by simpa using e,fun i hi z=>?_⟩
      cases i with
      | zero=>simpa using c
      | succ i =>
        simp only [List.getElem_cons_succ]
        exact k i (by simpa using hi) (by omega)
structure Mid (H:Hp) (m:Nat) (p sn tr:Addr) (us ss:List V) (ds:List Tri) (seen:List Tm) (x0 x1 x2:V) (d:Tri) (H':Hp):Prop where
  sm:Same H H'
  gp:H' p=some (.lst us)
  gs:H' sn=some (.lst ss)
  hss:TermsAt H' ss seen
  hpl:PileAt H' us ds
  gtr:H' tr=some (.lst [x0,x1,x2])
  h0:TermAt H' x0 d.1
  h1:TermAt H' x1 d.2.1
  h2:TermAt H' x2 d.2.2
  hd:HidT m seen d
theorem Mid.same {H:Hp}{m:Nat}{p sn tr:Addr}{us ss:List V}{ds:List Tri}{seen:List Tm}{x0 x1 x2:V}{d:Tri}{H' H'':Hp}(s:Same H' H'') (M:Mid H m p sn tr us ss ds seen x0 x1 x2 d H'):Mid H m p sn tr us ss ds seen x0 x1 x2 d H'' :=
  ⟨M.sm.trans s,s _ _ M.gp,s _ _ M.gs,M.hss.mono (.of s),M.hpl.same s,s _ _ M.gtr,M.h0.mono (.of s),M.h1.mono (.of s),M.h2.mono (.of s),M.hd⟩
theorem Mid.put0 {H:Hp}{m:Nat}{p sn tr:Addr}{us ss:List V}{ds:List Tri}{seen:List Tm}{x0 x1 x2 v:V}{t:Tm}{d:Tri}{H':Hp}(ftr:H tr=none) (ntp:tr≠p) (nts:tr≠sn) (ap:Apart tr us) (hv:TermAt H' v t) (hh:Hid m seen d.2.2 t) (ho:t.Ok) (hn:t.nodes<=d.2.2.nodes)
    (M:Mid H m p sn tr us ss ds seen x0 x1 x2 d H'):Mid H m p sn tr us ss ds seen v x1 x2 (t,d.2) (upd H' tr (.lst [v,x1,x2])) :=
  have k:TSame H' (upd H' tr (.lst [v,x1,x2])):=.lst M.gtr
  ⟨fun b ob z=>by rw [upd_ne (ne_of_none z ftr)];exact M.sm _ _ z,by rw [upd_ne ntp.symm];exact M.gp,by rw [upd_ne nts.symm];exact M.gs,M.hss.mono k,M.hpl.lst M.gtr ap,upd_same,hv.mono k,M.h1.mono k,M.h2.mono k,
    ⟨hh,M.hd.2.1,ho,M.hd.2.2.2.1,M.hd.2.2.2.2.1,hn,M.hd.2.2.2.2.2.2⟩⟩
theorem Mid.put1 {H:Hp}{m:Nat}{p sn tr:Addr}{us ss:List V}{ds:List Tri}{seen:List Tm}{x0 x1 x2 v:V}{t:Tm}{d:Tri}{H':Hp}(ftr:H tr=none) (ntp:tr≠p) (nts:tr≠sn) (ap:Apart tr us) (hv:TermAt H' v t) (hh:Hid m seen d.2.2 t) (ho:t.Ok) (hn:t.nodes<=d.2.2.nodes)
    (M:Mid H m p sn tr us ss ds seen x0 x1 x2 d H'):Mid H m p sn tr us ss ds seen x0 v x2 (d.1,t,d.2.2) (upd H' tr (.lst [x0,v,x2])) :=
  have k:TSame H' (upd H' tr (.lst [x0,v,x2])):=.lst M.gtr
  ⟨fun b ob z=>by rw [upd_ne (ne_of_none z ftr)];exact M.sm _ _ z,by rw [upd_ne ntp.symm];exact M.gp,by rw [upd_ne nts.symm];exact M.gs,M.hss.mono k,M.hpl.lst M.gtr ap,upd_same,M.h0.mono k,hv.mono k,M.h2.mono k,
    ⟨M.hd.1,hh,M.hd.2.2.1,ho,M.hd.2.2.2.2.1,M.hd.2.2.2.2.2.1,hn⟩⟩
end BF
namespace BF
open PySem
inductive Rs where
  | giv
  | turn (n:Nat)
  | part (n k:Nat)
  | chain (n m:Nat)
def Fol (ds:List Ln) (g:Ln):Rs->Ln->Prop
  | .giv,p=>p=g
  | .turn n,p=>∃ q,ds[n]?=some q/\p=(q.2,q.1)
  | .part n k,p=>∃ w ps qs x y,ds[n]?=some (.thing w ps,.thing w qs)/\ps.length=qs.length/\ps[k]?=some x/\qs[k]?=some y/\p=(x,y)
  | .chain n m,p=>∃ a b c,ds[n]?=some (a,b)/\ds[m]?=some (b,c)/\p=(a,c)
inductive RI where
  | giv
  | turn (n:Int)
  | part (n k:Int)
  | chain (n m:Int)
end BF
namespace BF
open PySem PySem.Spec PyProof.Rows L2
def riL:RI->List V
  | .giv=>[.str "given"]
  | .turn n=>[.str "turn",.int n]
  | .part n k=>[.str "part",.int n,.int k]
  | .chain n m=>[.str "chain",.int n,.int m]
def LfAt (H:Hp) (ls:List V) (fs:List (Ln×RI)):Prop:=Paired (fun x p=>∃ a u v r,x=.ref a/\H a=some (.tup [u,v,.ref r])/\H r=some (.tup (riL p.2))/\TermAt H u p.1.1/\TermAt H v p.1.2) ls fs
theorem LfAt.mono {H H':Hp}{ls:List V}{fs:List (Ln×RI)}(k:TSame H H') (h:LfAt H ls fs):LfAt H' ls fs:=paired_mono (fun _ _ ⟨a,u,v,r,e,h1,h2,h3,h4⟩=>⟨a,u,v,r,e,k _ _ h1,k _ _ h2,h3.mono k,h4.mono k⟩) h
end BF
namespace BF
open PySem
def RI.val (n:Nat):RI->Option Rs
  | .giv=>some .giv
  | .turn i=>if 0<=i/\i<(n:Int) then some (.turn i.toNat) else none
  | .part i k=>if (0<=i/\i<(n:Int))/\0<=k then some (.part i.toNat k.toNat) else none
  | .chain i j=>if (0<=i/\i<(n:Int))/\0<=j/\j<(n:Int) then some (.chain i.toNat j.toNat) else none
def Leads (ds:List Ln) (g:Ln) (r:RI) (p:Ln):Prop:=∃ q,r.val ds.length=some q/\Fol ds g q p
def Snd (g:Ln):List Ln->List (Ln×RI)->Prop
  | _,[]=>True
  | ds,x::rest=>Leads ds g x.2 x.1/\Snd g (ds++[x.1]) rest
theorem snd_append (g:Ln):∀ (a b:List (Ln×RI)) (ds:List Ln),Snd g ds (a++b)↔Snd g ds a/\Snd g (ds++a.map (·.1)) b
  | [],b,ds=>by simp [Snd]
  | x::a,b,ds=>by
    simp only [List.cons_append,Snd,snd_append g a b,List.map_cons,List.append_assoc,List.nil_append,and_assoc]
theorem snd_snoc (g:Ln) (a:List (Ln×RI)) (x:Ln×RI) (ds:List Ln):Snd g ds (a++[x])↔Snd g ds a/\Leads (ds++a.map (·.1)) g x.2 x.1:=by
  rw [snd_append]
  simp [Snd]
end BF
namespace BF
open PySem
mutual
def Tm.sub (φ:Str->Tm):Tm->Tm
  | .num n=>.num n
  | .name w=>.name w
  | .blank w=>φ w
  | .thing w ps=>.thing w (subL φ ps)
def subL (φ:Str->Tm):List Tm->List Tm
  | []=>[]
  | p::r=>p.sub φ::subL φ r
end
theorem subL_map (φ:Str->Tm) (ps:List Tm):subL φ ps=ps.map (Tm.sub φ):=by
  induction ps with
  | nil=>rfl
  | cons p r ih=>simp only [subL,ih,List.map_cons]
theorem subL_len (φ:Str->Tm) (ps:List Tm):(subL φ ps).length=ps.length:=by rw [subL_map,zLM]
def fsub (f:Fl):Str->Tm:=fun w=>(look f w).getD (.blank w)
theorem fill_sub (f:Fl) (t:Tm):t.fill f=t.sub (fsub f):=by
  refine Tm.ind (P:=fun t=>t.fill f=t.sub (fsub f)) (fun _=>rfl) (fun _=>rfl) (fun _=>rfl) (fun w ps ih=>?_) t
  simp only [Tm.fill,Tm.sub,fillL_map,subL_map]
  rw [List.map_congr_left ih]
theorem mem_blL {w:Str}{ps:List Tm}:w∈blL ps↔∃ p∈ps,w∈p.bl:=by
  induction ps with
  | nil=>simp [blL]
  | cons p r ih=>simp [blL,ih]
theorem sub_congr {φ ψ:Str->Tm}(t:Tm):(∀ w∈t.bl,φ w=ψ w)->t.sub φ=t.sub ψ:=by
  refine Tm.ind (P:=fun t=>(∀ w∈t.bl,φ w=ψ w)->t.sub φ=t.sub ψ) (fun _ _=>rfl) (fun _ _=>rfl) (fun w h=>h w (by simp [Tm.bl])) (fun w ps ih h=>?_) t
  simp only [Tm.sub,subL_map]
  rw [List.map_congr_left fun p hp=>ih p hp fun x hx=>h x (by simp only [Tm.bl];exact mem_blL.mpr ⟨p,hp,hx⟩)]
theorem sub_sub (φ ψ:Str->Tm) (t:Tm):(t.sub φ).sub ψ=t.sub fun w=>(φ w).sub ψ:=by
  refine Tm.ind (P:=fun t=>(t.sub φ).sub ψ=t.sub fun w=>(φ w).sub ψ) (fun _=>rfl) (fun _=>rfl) (fun _=>rfl) (fun w ps ih=>?_) t
  simp only [Tm.sub,subL_map,List.map_map]
  exact congrArg (Tm.thing w) (List.map_congr_left ih)
theorem thing_sub {φ:Str->Tm}{w v:Str}{ps qs:List Tm}:(Tm.thing w ps).sub φ=.thing v qs↔w=v/\ps.length=qs.length/\∀ z∈ps.zip qs,z.1.sub φ=z.2:=by
  simp only [Tm.sub,subL_map,Tm.thing.injEq]
  refine and_congr_right fun _=>?_
  induction ps generalizing qs with
  | nil=>cases qs <;> simp
  | cons p r ih =>
    cases qs with
    | nil=>simp
    | cons q s =>
      simp only [List.map_cons,List.cons.injEq,ih,zLC,Nat.add_right_cancel_iff,List.zip_cons_cons,List.mem_cons,forall_eq_or_imp]
      exact ⟨fun ⟨a,b,c⟩=>⟨b,a,c⟩,fun ⟨b,a,c⟩=>⟨a,b,c⟩⟩
theorem thing_subs {φ:Str->Tm}{w v:Str}{ps qs:List Tm}:(Tm.thing w ps).sub φ=(Tm.thing v qs).sub φ↔w=v/\ps.length=qs.length/\∀ z∈ps.zip qs,z.1.sub φ=z.2.sub φ:=by
  have e:(Tm.thing v qs).sub φ=.thing v (qs.map (Tm.sub φ)):=by simp only [Tm.sub,subL_map]
  rw [e,thing_sub,zLM]
  refine and_congr_right fun _=>and_congr_right fun _=>?_
  rw [List.zip_map_right]
  constructor
  · intro h z hz
    exact h (z.1,z.2.sub φ) (List.mem_map.mpr ⟨z,hz,rfl⟩)
  · intro h z hz
    obtain ⟨y,hy,rfl⟩:=List.mem_map.mp hz
    exact h y hy
variable {pat term:Tm}{cs:List Mt}{tm:Fl}{ph:List (Str×List Int)}
end BF
namespace BF
open PySem Classical
abbrev Nx:=Tm->Option Tm
inductive Rch (nx:Nx):Nat->Tm->Tm->Prop
  | root {t:Tm}:nx t=none->Rch nx 0 t t
  | step {k:Nat}{t u e:Tm}:nx t=some u->Rch nx k u e->Rch nx (k+1) t e
theorem Rch.det {nx:Nx}{k k':Nat}{t e e':Tm}(h:Rch nx k t e) (h':Rch nx k' t e'):k=k'/\e=e':=by
  induction h generalizing k' with
  | root hn =>
    cases h' with
    | root _=>exact ⟨rfl,rfl⟩
    | step hs _=>rw [hn] at hs;cases hs
  | step hs _ ih =>
    cases h' with
    | root hn=>rw [hn] at hs;cases hs
    | step hs' r' =>
      rw [hs] at hs'
      cases hs'
      obtain ⟨h1,h2⟩:=ih r'
      exact ⟨by rw [h1],h2⟩
theorem Rch.end' {nx:Nx}{k:Nat}{t e:Tm}(h:Rch nx k t e):nx e=none:=by
  induction h with
  | root hn=>exact hn
  | step _ _ ih=>exact ih
theorem Rch.of_root {nx:Nx}{k:Nat}{t e:Tm}(h:Rch nx k t e) (hn:nx t=none):k=0/\e=t:=h.det (.root hn)
noncomputable def put (nx:Nx) (t u:Tm):Nx:=fun s=>if s=t then some u else nx s
theorem put_same (nx:Nx) (t u:Tm):put nx t u t=some u:=if_pos rfl
theorem put_ne {nx:Nx}{t u s:Tm}(h:s≠t):put nx t u s=nx s:=if_neg h
theorem Rch.join {nx:Nx}{a b:Tm}(ha:nx a=none) (hb:nx b=none) (hab:a≠b) {k:Nat}{t e:Tm}(h:Rch nx k t e):(e≠a->Rch (put nx a b) k t e)/\(e=a->Rch (put nx a b) (k+1) t b):=by
  induction h with
  | @root t hn =>
    refine ⟨fun z=>.root (by rw [put_ne z];exact hn),?_⟩
    rintro rfl
    exact .step (put_same ..) (.root (by rw [put_ne hab.symm];exact hb))
  | @step k t u e hs r ih =>
    have z:t≠a:=by rintro rfl;rw [ha] at hs;cases hs
    exact ⟨fun y=>.step (by rw [put_ne z];exact hs) (ih.1 y),fun y=>.step (by rw [put_ne z];exact hs) (ih.2 y)⟩
theorem Rch.short {nx:Nx}{t e:Tm}{k:Nat}(ht:Rch nx (k+1) t e) {j:Nat}{s f:Tm}(h:Rch nx j s f):∃ i,i<=j/\Rch (put nx t e) i s f:=by
  have he:=ht.end'
  have hne:e≠t:=by rintro rfl;cases ht with | step hs _=>rw [he] at hs;cases hs
  induction h with
  | @root s hn =>
    have z:s≠t:=by rintro rfl;cases ht with | step hs _=>rw [hn] at hs;cases hs
    exact ⟨0,Nat.le_refl _,.root (by rw [put_ne z];exact hn)⟩
  | @step j s u f hs r ih =>
    by_cases z:s=t
    · subst z
      have:=(Rch.step hs r).det ht
      obtain ⟨_,rfl⟩:=this
      exact ⟨1,by omega,.step (put_same ..) (.root (by rw [put_ne hne];exact he))⟩
    · obtain ⟨i,h1,h2⟩:=ih
      exact ⟨i+1,by omega,.step (by rw [put_ne z];exact hs) h2⟩
theorem nodup_len {α:Type}:∀ {l m:List α},l.Nodup->(∀ x∈l,x∈m)->l.length<=m.length
  | [],_,_,_=>Nat.zero_le _
  | x::l,m,hn,h=>by
    rw [List.nodup_cons] at hn
    have hx:=h x (by simp)
    have:=nodup_len (l:=l) (m:=m.erase x) hn.2 fun y hy=>(List.mem_erase_of_ne (by rintro rfl;exact hn.1 hy)).mpr (h y (by simp [hy]))
    rw [List.length_erase_of_mem hx] at this
    have:=List.length_pos_of_mem hx
    simp only [zLC]
    omega
theorem Rch.len {nx:Nx}{ks:List Tm}(hk:∀ t u,nx t=some u->t∈ks) {k:Nat}{t e:Tm}(h:Rch nx k t e):k<=ks.length:=by
  suffices H:∃ l:List Tm,l.length=k/\l.Nodup/\∀ s∈l,s∈ks/\∃ j,j<=k/\Rch nx j s e by
    obtain ⟨l,h1,h2,h3⟩:=H
    rw [<- h1]
    exact nodup_len h2 fun s hs=>(h3 s hs).1
  induction h with
  | root hn=>exact ⟨[],rfl,.nil,fun s hs=>by simp at hs⟩
  | @step k t u e hs r ih =>
    obtain ⟨l,h1,h2,h3⟩:=ih
    refine ⟨t::l,by simp [h1],List.nodup_cons.mpr ⟨fun z=>?_,h2⟩,fun s hs'=>?_⟩
    · obtain ⟨_,j,hj,hr⟩:=h3 t z
      have:=(hr.det (Rch.step hs r)).1
      omega
    · rcases List.mem_cons.mp hs' with z | z
      · subst z
        exact ⟨hk _ _ hs,k+1,Nat.le_refl _,.step hs r⟩
      · obtain ⟨h4,j,hj,hr⟩:=h3 s z
        exact ⟨h4,j,by omega,hr⟩
inductive Cl (nx:Nx) (pd:List Ln):Tm->Tm->Prop
  | nx {t u:Tm}:nx t=some u->Cl nx pd t u
  | pd {t u:Tm}:(t,u)∈pd->Cl nx pd t u
  | refl {t:Tm}:Cl nx pd t t
  | symm {t u:Tm}:Cl nx pd t u->Cl nx pd u t
  | trans {t u v:Tm}:Cl nx pd t u->Cl nx pd u v->Cl nx pd t v
theorem Rch.cl {nx:Nx}{pd:List Ln}{k:Nat}{t e:Tm}(h:Rch nx k t e):Cl nx pd t e:=by
  induction h with
  | root _=>exact .refl
  | step hs _ ih=>exact .trans (.nx hs) ih
theorem Cl.mono {nx nx':Nx}{pd pd':List Ln}(h1:∀ t u,nx t=some u->Cl nx' pd' t u) (h2:∀ p∈pd,Cl nx' pd' p.1 p.2) {t u:Tm}(h:Cl nx pd t u):Cl nx' pd' t u:=by
  induction h with
  | nx hs=>exact h1 _ _ hs
  | pd hp=>exact h2 _ hp
  | refl=>exact .refl
  | symm _ ih=>exact .symm ih
  | trans _ _ i1 i2=>exact .trans i1 i2
theorem Cl.same {nx:Nx}{t u:Tm}(tot:∀ t,∃ k e,Rch nx k t e) (h:Cl nx [] t u):∃ e k j,Rch nx k t e/\Rch nx j u e:=by
  induction h with
  | @nx t u hs =>
    obtain ⟨k,e,h⟩:=tot u
    exact ⟨e,k+1,k,.step hs h,h⟩
  | pd hp=>cases hp
  | @refl t =>
    obtain ⟨k,e,h⟩:=tot t
    exact ⟨e,k,k,h,h⟩
  | symm _ ih =>
    obtain ⟨e,k,j,h1,h2⟩:=ih
    exact ⟨e,j,k,h2,h1⟩
  | trans _ _ i1 i2 =>
    obtain ⟨e,k,j,h1,h2⟩:=i1
    obtain ⟨e',k',j',h1',h2'⟩:=i2
    obtain ⟨_,rfl⟩:=h2.det h1'
    exact ⟨e,k,j',h1,h2'⟩
def Like (R:Tm->Tm->Prop) (t u:Tm):Prop:=∃ w ps qs,t=.thing w ps/\u=.thing w qs/\ps.length=qs.length/\∀ z∈ps.zip qs,R z.1 z.2
theorem zip_flip {ps qs:List Tm}{a b:Tm}(h:(a,b)∈ps.zip qs):(b,a)∈qs.zip ps:=by
  obtain ⟨k,hk,e⟩:=List.mem_iff_getElem.mp h
  have e':=List.getElem?_eq_getElem hk
  rw [e] at e'
  obtain ⟨h1,h2⟩:=List.getElem?_zip_eq_some.mp e'
  exact List.mem_of_getElem? (List.getElem?_zip_eq_some.mpr ⟨h2,h1⟩)
theorem zip_mid {ps qs rs:List Tm}(hl:ps.length=qs.length) {a c:Tm}(h:(a,c)∈ps.zip rs):∃ b,(a,b)∈ps.zip qs/\((b,c)∈qs.zip rs):=by
  obtain ⟨k,hk,e⟩:=List.mem_iff_getElem.mp h
  have e':=List.getElem?_eq_getElem hk
  rw [e] at e'
  obtain ⟨h1,h2⟩:=List.getElem?_zip_eq_some.mp e'
  have hk':k<qs.length:=by rw [<- hl];exact (List.getElem?_eq_some_iff.mp h1).1
  exact ⟨qs[k],List.mem_of_getElem? (List.getElem?_zip_eq_some.mpr ⟨h1,List.getElem?_eq_getElem hk'⟩),List.mem_of_getElem? (List.getElem?_zip_eq_some.mpr ⟨List.getElem?_eq_getElem hk',h2⟩)⟩
theorem Like.symm {R:Tm->Tm->Prop}(hR:∀ a b,R a b->R b a) {t u:Tm}(h:Like R t u):Like R u t:=by
  obtain ⟨w,ps,qs,rfl,rfl,hl,hz⟩:=h
  exact ⟨w,qs,ps,rfl,rfl,hl.symm,fun z h=>hR _ _ (hz (z.2,z.1) (zip_flip h))⟩
theorem Like.trans {R:Tm->Tm->Prop}(hR:∀ a b c,R a b->R b c->R a c) {t u v:Tm}(h:Like R t u) (h':Like R u v):Like R t v:=by
  obtain ⟨w,ps,qs,rfl,rfl,hl,hz⟩:=h
  obtain ⟨w',qs',rs,e,rfl,hl',hz'⟩:=h'
  cases e
  refine ⟨w,ps,rs,rfl,rfl,hl.trans hl',fun z h=>?_⟩
  obtain ⟨b,h1,h2⟩:=zip_mid hl h
  exact hR _ _ _ (hz (z.1,b) h1) (hz' (b,z.2) h2)
structure UInv (g:Ln) (nx:Nx) (pd:List Ln):Prop where
  tot:∀ t,∃ k e,Rch nx k t e
  kind:∀ t u,nx t=some u->isB t=true\/Like (Cl nx pd) t u
  top:Cl nx pd g.1 g.2
theorem UInv.way {g:Ln}{nx:Nx}{pd:List Ln}(h:UInv g nx pd) {k:Nat}{t e:Tm}(r:Rch nx k t e) (ht:isB t=false):(k=0/\e=t)\/Like (Cl nx pd) t e:=by
  induction r with
  | root _=>exact .inl ⟨rfl,rfl⟩
  | @step k t u e hs r ih =>
    rcases h.kind _ _ hs with z | z
    · rw [ht] at z;cases z
    · obtain ⟨w,ps,qs,rfl,rfl,hl,hz⟩:=id z
      rcases ih rfl with ⟨_,rfl⟩ | y
      · exact .inr z
      · exact .inr (z.trans (fun _ _ _=>.trans) y)
theorem UInv.start (g:Ln):UInv g (fun _=>none) [g] where
  tot:=fun t=>⟨0,t,.root rfl⟩
  kind:=fun _ _ h=>by cases h
  top:=.pd (by simp)
theorem Like.mono {R S:Tm->Tm->Prop}(h:∀ a b,R a b->S a b) {t u:Tm}(l:Like R t u):Like S t u :=
  let ⟨w,ps,qs,e1,e2,e3,hz⟩:=l;⟨w,ps,qs,e1,e2,e3,fun z y=>h _ _ (hz z y)⟩
theorem UInv.done {g:Ln}{nx:Nx}{pd:List Ln}{a b e:Tm}{k j:Nat}(h:UInv g nx (pd++[(a,b)])) (ra:Rch nx k a e) (rb:Rch nx j b e):UInv g nx pd:=by
  have m:∀ t u,Cl nx (pd++[(a,b)]) t u->Cl nx pd t u:=fun t u=>Cl.mono (fun _ _=>.nx) fun p hp=>by
    rcases List.mem_append.mp hp with z | z
    · exact .pd z
    · cases List.mem_singleton.mp z
      exact .trans ra.cl (.symm rb.cl)
  exact ⟨h.tot,fun t u hs=>(h.kind t u hs).imp id (Like.mono m),m _ _ h.top⟩
theorem UInv.short {g:Ln}{nx:Nx}{pd:List Ln}{t e:Tm}{k:Nat}(h:UInv g nx pd) (r:Rch nx (k+1) t e):UInv g (put nx t e) pd:=by
  have tot:∀ s,∃ k e',Rch (put nx t e) k s e':=fun s=>by
    obtain ⟨j,f,hs⟩:=h.tot s
    obtain ⟨i,_,hi⟩:=Rch.short r hs
    exact ⟨i,f,hi⟩
  have m:∀ s u,Cl nx pd s u->Cl (put nx t e) pd s u:=fun s u=>Cl.mono (fun s u hs=>by
    obtain ⟨j,f,hu⟩:=h.tot u
    obtain ⟨i,_,hi⟩:=Rch.short r hu
    obtain ⟨i',_,hi'⟩:=Rch.short r (Rch.step hs hu)
    exact .trans hi'.cl (.symm hi.cl)) fun p hp=>.pd hp
  refine ⟨tot,fun s u hs=>?_,m _ _ h.top⟩
  by_cases z:s=t
  · subst z
    rw [put_same] at hs
    cases hs
    cases hb:isB s with
    | true=>exact .inl rfl
    | false =>
      rcases h.way r hb with ⟨y,_⟩ | y
      · omega
      · exact .inr (y.mono m)
  · rw [put_ne z] at hs
    exact (h.kind s u hs).imp id (Like.mono m)
theorem UInv.join {g:Ln}{nx:Nx}{pd pd':List Ln}{a b x y:Tm}{k j:Nat}(h:UInv g nx (pd++[(a,b)])) (ra:Rch nx k a x) (rb:Rch nx j b y) (hxy:x≠y) {c d:Tm}(hcd:(c=x/\d=y)\/(c=y/\d=x))
    (hpd:∀ p∈pd,p∈pd') (hk:isB c=true\/Like (fun t u=>(t,u)∈pd'\/t=u) c d):UInv g (put nx c d) pd':=by
  have hc:nx c=none:=by rcases hcd with ⟨rfl,_⟩ | ⟨rfl,_⟩ <;> first | exact ra.end' | exact rb.end'
  have hd:nx d=none:=by rcases hcd with ⟨_,rfl⟩ | ⟨_,rfl⟩ <;> first | exact ra.end' | exact rb.end'
  have ne:c≠d:=by rcases hcd with ⟨rfl,rfl⟩ | ⟨rfl,rfl⟩ <;> first | exact hxy | exact hxy.symm
  have old:∀ s u,nx s=some u->put nx c d s=some u:=fun s u hs=>by rw [put_ne (by rintro rfl;rw [hc] at hs;cases hs)];exact hs
  have lift:∀ {k:Nat}{s e:Tm},Rch nx k s e->Cl (put nx c d) pd' s e:=fun r=>by
    induction r with
    | root _=>exact .refl
    | step hs _ ih=>exact .trans (.nx (old _ _ hs)) ih
  have m:∀ s u,Cl nx (pd++[(a,b)]) s u->Cl (put nx c d) pd' s u:=fun s u=>Cl.mono (fun s u hs=>.nx (old s u hs)) fun p hp=>by
    rcases List.mem_append.mp hp with z | z
    · exact .pd (hpd p z)
    · cases List.mem_singleton.mp z
      have cd:Cl (put nx c d) pd' c d:=.nx (put_same ..)
      have xy:Cl (put nx c d) pd' x y:=by
        rcases hcd with ⟨rfl,rfl⟩ | ⟨rfl,rfl⟩
        · exact cd
        · exact .symm cd
      exact .trans (lift ra) (.trans xy (.symm (lift rb)))
  refine ⟨fun s=>?_,fun s u hs=>?_,m _ _ h.top⟩
  · obtain ⟨i,e,hs⟩:=h.tot s
    have:=hs.join hc hd ne
    by_cases z:e=c
    · exact ⟨_,_,this.2 z⟩
    · exact ⟨_,_,this.1 z⟩
  · by_cases z:s=c
    · subst z
      rw [put_same] at hs
      cases hs
      refine hk.imp id (Like.mono fun t u hz=>?_)
      rcases hz with hz | hz
      · exact .pd hz
      · subst hz;exact .refl
    · rw [put_ne z] at hs
      exact (h.kind s u hs).imp id (Like.mono m)
theorem nodes_zip {φ:Str->Tm}{w:Str}{ps:List Tm}{p:Tm}(h:p∈ps):(p.sub φ).nodes<((Tm.thing w ps).sub φ).nodes:=by
  have:=nodes_mem (List.mem_map.mpr ⟨p,h,rfl⟩:p.sub φ∈ps.map (Tm.sub φ))
  simp only [Tm.sub,subL_map,Tm.nodes]
  omega
theorem UInv.alike {g:Ln}{nx:Nx}{σ:Str->Tm}(h:UInv g nx []) (hσ:∀ w k e,Rch nx k (.blank w) e->σ w=e.sub σ):∀ (n:Nat) (t u e:Tm) (k j:Nat),(t.sub σ).nodes<=n->Rch nx k t e->Rch nx j u e->t.sub σ=u.sub σ:=by
  intro n
  induction n with
  | zero=>intro t u e k j hn;have:=(t.sub σ).nodes_pos;omega
  | succ n ih =>
    have things:∀ (t u e:Tm) (k j:Nat),isT t=true->isT u=true->(t.sub σ).nodes<=n+1->Rch nx k t e->Rch nx j u e->t.sub σ=u.sub σ:=fun t u e k j ht hu hn rt ru=>by
      have bt:isB t=false:=by cases t <;> simp_all [isT,isB]
      have bu:isB u=false:=by cases u <;> simp_all [isT,isB]
      have main:Like (Cl nx []) t u->t.sub σ=u.sub σ:=by
        rintro ⟨w,ps,qs,rfl,rfl,hl,hz⟩
        rw [thing_subs]
        refine ⟨rfl,hl,fun z hz'=>?_⟩
        obtain ⟨e',i,i',h1,h2⟩:=(hz z hz').same h.tot
        refine ih z.1 z.2 e' i i' ?_ h1 h2
        have:=nodes_zip (φ:=σ) (w:=w) (List.of_mem_zip hz').1
        omega
      rcases h.way rt bt with ⟨_,rfl⟩ | y
      · rcases h.way ru bu with ⟨_,rfl⟩ | z
        · rfl
        · exact main (z.symm fun _ _=>.symm)
      · rcases h.way ru bu with ⟨_,rfl⟩ | z
        · exact main y
        · exact main (y.trans (fun _ _ _=>.trans) (z.symm fun _ _=>.symm))
    have toend:∀ (u e:Tm) (j:Nat),isT u=false->Rch nx j u e->u.sub σ=e.sub σ:=fun u e j hu ru=>by
      cases u with
      | blank w=>exact hσ w j e ru
      | thing _ _=>cases hu
      | num x =>
        rcases h.way ru rfl with ⟨_,rfl⟩ | ⟨_,_,_,e,_⟩
        · rfl
        · cases e
      | name x =>
        rcases h.way ru rfl with ⟨_,rfl⟩ | ⟨_,_,_,e,_⟩
        · rfl
        · cases e
    have endT:∀ (u e:Tm) (j:Nat),isT u=true->Rch nx j u e->isT e=true:=fun u e j hu ru=>by
      have bu:isB u=false:=by cases u <;> simp_all [isT,isB]
      rcases h.way ru bu with ⟨_,rfl⟩ | ⟨_,_,_,_,rfl,_⟩
      · exact hu
      · rfl
    intro t u e k j hn rt ru
    have re:Rch nx 0 e e:=.root rt.end'
    cases ht:isT t with
    | true =>
      cases hu:isT u with
      | true=>exact things t u e k j ht hu hn rt ru
      | false=>exact (things t e e k 0 ht (endT t e k ht rt) hn rt re).trans (toend u e j hu ru).symm
    | false =>
      have h1:=toend t e k ht rt
      cases hu:isT u with
      | true=>exact h1.trans (things e u e 0 j (endT u e j hu ru) hu (by rw [<- h1];exact hn) re ru)
      | false=>exact h1.trans (toend u e j hu ru).symm
theorem UInv.both {g:Ln}{nx:Nx}{σ:Str->Tm}(h:UInv g nx []) (hσ:∀ w k e,Rch nx k (.blank w) e->σ w=e.sub σ):g.1.sub σ=g.2.sub σ:=by
  obtain ⟨e,k,j,h1,h2⟩:=h.top.same h.tot
  exact h.alike hσ _ _ _ e k j (Nat.le_refl _) h1 h2
end BF
namespace BF
open PySem
def Sol (φ:Str->Tm) (p:Ln):Prop:=p.1.sub φ=p.2.sub φ
theorem Fol.sol {φ:Str->Tm}{ds:List Ln}{g p:Ln}{r:Rs}(h:Fol ds g r p) (hg:Sol φ g) (hd:∀ q∈ds,Sol φ q):Sol φ p:=by
  cases r with
  | giv=>simp only [Fol] at h;rw [h];exact hg
  | turn n =>
    simp only [Fol] at h
    obtain ⟨a,e,rfl⟩:=h
    exact (hd a (List.mem_of_getElem? e)).symm
  | part n i =>
    simp only [Fol] at h
    obtain ⟨w,ps,qs,x,y,e,hl,ex,ey,rfl⟩:=h
    have h1:=hd _ (List.mem_of_getElem? e)
    exact (thing_subs.mp h1).2.2 (x,y) (List.mem_of_getElem? (List.getElem?_zip_eq_some.mpr ⟨ex,ey⟩))
  | chain n m =>
    simp only [Fol] at h
    obtain ⟨a,b,c,e1,e2,rfl⟩:=h
    have h1:a.sub φ=b.sub φ:=hd (a,b) (List.mem_of_getElem? e1)
    have h2:b.sub φ=c.sub φ:=hd (b,c) (List.mem_of_getElem? e2)
    exact h1.trans h2
theorem snd_sol {φ:Str->Tm}{g:Ln}(hg:Sol φ g):∀ (fs:List (Ln×RI)) (ds:List Ln),Snd g ds fs->(∀ q∈ds,Sol φ q)->∀ x∈fs,Sol φ x.1
  | [],_,_,_,_,hx=>by cases hx
  | y :: fs,ds,h,hd,x,hx=>by
    simp only [Snd] at h
    obtain ⟨⟨q,_,hq⟩,h2⟩:=h
    have hy:=hq.sol hg hd
    rcases List.mem_cons.mp hx with z | z
    · rw [z];exact hy
    · refine snd_sol hg fs (ds++[y.1]) h2 (fun q hq=>?_) x z
      rcases List.mem_append.mp hq with z | z
      · exact hd q z
      · cases List.mem_singleton.mp z
        exact hy
theorem nodes_blank {φ:Str->Tm}{w:Str}(t:Tm):w∈t.bl->(φ w).nodes<=(t.sub φ).nodes/\(isT t=true->(φ w).nodes<(t.sub φ).nodes):=by
  refine Tm.ind (P:=fun t=>w∈t.bl->(φ w).nodes<=(t.sub φ).nodes/\(isT t=true->(φ w).nodes<(t.sub φ).nodes)) (fun _ h=>?_) (fun _ h=>?_) (fun x h=>?_) (fun v ps ih h=>?_) t
  · simp [Tm.bl] at h
  · simp [Tm.bl] at h
  · simp only [Tm.bl,List.mem_singleton] at h
    subst h
    exact ⟨Nat.le_refl _,fun z=>by cases z⟩
  · simp only [Tm.bl] at h
    obtain ⟨p,hp,hw⟩:=mem_blL.mp h
    have h1:=(ih p hp hw).1
    have h2:=nodes_zip (φ:=φ) (w:=v) hp
    exact ⟨by omega,fun _=>by omega⟩
theorem ring_no {φ:Str->Tm}{R:List Ln}(h:RingOk R):¬ ∀ p∈R,Sol φ p:=by
  intro hs
  obtain ⟨_,hn,p,hp,ht⟩:=h
  obtain ⟨i,hi,e⟩:=List.mem_iff_getElem.mp hp
  have step:∀ j (hj:j<R.length),((R[(j+1) % R.length]'(Nat.mod_lt _ (by omega))).1.sub φ).nodes<=(R[j].1.sub φ).nodes/\(isT R[j].2=true->((R[(j+1) % R.length]'(Nat.mod_lt _ (by omega))).1.sub φ).nodes<(R[j].1.sub φ).nodes):=fun j hj=>by
    obtain ⟨w,e1,hw⟩:=hn j hj
    have h1:R[j].1.sub φ=R[j].2.sub φ:=hs _ (List.getElem_mem hj)
    rw [e1,h1]
    exact nodes_blank _ hw
  have far:∀ (m j:Nat) (hj:j<R.length),((R[(j+m) % R.length]'(Nat.mod_lt _ (by omega))).1.sub φ).nodes<=(R[j].1.sub φ).nodes:=fun m=>by
    induction m with
    | zero=>intro j hj;simp only [Nat.add_zero,Nat.mod_eq_of_lt hj];exact Nat.le_refl _
    | succ m ih =>
      intro j hj
      have hlt:=Nat.mod_lt (j+m) (by omega:R.length>0)
      have h1:=(step _ hlt).1
      have h2:=ih j hj
      have e':((j+m) % R.length+1) % R.length=(j+(m+1)) % R.length:=by rw [Nat.mod_add_mod,Nat.add_assoc]
      simp only [e'] at h1
      omega
  have h1:=(step i hi).2 (by rw [e];exact ht)
  have hlt:=Nat.mod_lt (i+1) (by omega:R.length>0)
  have h2:=far (R.length - 1) _ hlt
  have e':((i+1) % R.length+(R.length - 1)) % R.length=i:=by
    rw [Nat.mod_add_mod,show i+1+(R.length - 1)=i+R.length by omega,Nat.add_mod_right,Nat.mod_eq_of_lt hi]
  simp only [e'] at h2
  omega
theorem bl_sub {φ:Str->Tm}{x:Str}(t:Tm):x∈(t.sub φ).bl↔∃ w∈t.bl,x∈(φ w).bl:=by
  refine Tm.ind (P:=fun t=>x∈(t.sub φ).bl↔∃ w∈t.bl,x∈(φ w).bl) (fun _=>by simp [Tm.sub,Tm.bl]) (fun _=>by simp [Tm.sub,Tm.bl]) (fun w=>by simp [Tm.sub,Tm.bl]) (fun v ps ih=>?_) t
  simp only [Tm.sub,Tm.bl,subL_map,mem_blL,List.mem_map]
  constructor
  · rintro ⟨_,⟨p,hp,rfl⟩,hx⟩
    obtain ⟨w,hw,h⟩:=(ih p hp).mp hx
    exact ⟨w,⟨p,hp,hw⟩,h⟩
  · rintro ⟨w,⟨p,hp,hw⟩,h⟩
    exact ⟨_,⟨p,hp,rfl⟩,(ih p hp).mpr ⟨w,hw,h⟩⟩
inductive Stl (ends:Fl):Fl->Prop
  | nil:Stl ends []
  | snoc {f:Fl}{w:Str}{e:Tm}:Stl ends f->look ends w=some e->w∉f.map (·.1)->(∀ x∈e.bl,look ends x≠none->x∈f.map (·.1))->Stl ends (f++[(w,e.fill f)])
theorem look_old {f:Fl}{w x:Str}{t:Tm}(h:x≠w):look (f++[(w,t)]) x=look f x:=by
  have:look [(w,t)] x=none:=look_out (by simpa using h)
  rw [look_append,this,Option.or_none]
theorem look_new {f:Fl}{w:Str}{t:Tm}(h:w∉f.map (·.1)):look (f++[(w,t)]) w=some t:=by
  rw [look_append,look_out h]
  simp [look]
theorem Stl.inv {ends f:Fl}(h:Stl ends f):(f.map (·.1)).Nodup/\∀ p∈f,∃ e,look ends p.1=some e/\p.2=e.fill f/\look f p.1=some p.2/\∀ x∈e.bl,look ends x≠none->x∈f.map (·.1):=by
  induction h with
  | nil=>exact ⟨.nil,fun p hp=>by cases hp⟩
  | @snoc f w e _ hw hn hb ih =>
    obtain ⟨nd,ih⟩:=ih
    have keep:∀ t:Tm,(∀ x∈t.bl,look ends x≠none->x∈f.map (·.1))->t.fill f=t.fill (f++[(w,e.fill f)]):=fun t ht=>by
      rw [fill_sub,fill_sub]
      refine sub_congr t fun x hx=>?_
      have hxw:x≠w:=by rintro rfl;exact hn (ht x hx (by rw [hw];simp))
      simp only [fsub,look_old hxw]
    refine ⟨?_,fun p hp=>?_⟩
    · rw [List.map_append]
      exact List.nodup_append.mpr ⟨nd,by simp,fun x hx y hy=>by simp at hy;rintro rfl;subst hy;exact hn hx⟩
    · rcases List.mem_append.mp hp with z | z
      · obtain ⟨e',h1,h2,h3,h4⟩:=ih p z
        refine ⟨e',h1,h2.trans (keep e' h4),?_,fun x hx hx'=>by rw [List.map_append];exact List.mem_append_left _ (h4 x hx hx')⟩
        rw [look_old (by intro y;exact hn (y▸List.mem_map.mpr ⟨p,z,rfl⟩))]
        exact h3
      · cases List.mem_singleton.mp z
        exact ⟨e,hw,keep e hb,look_new hn,fun x hx hx'=>by rw [List.map_append];exact List.mem_append_left _ (hb x hx hx')⟩
theorem Stl.out {ends f:Fl}(h:Stl ends f) {w:Str}(hw:look ends w=none):look f w=none:=by
  refine look_out fun z=>?_
  obtain ⟨p,hp,rfl⟩:=List.mem_map.mp z
  obtain ⟨e,h1,_⟩:=h.inv.2 p hp
  rw [hw] at h1
  cases h1
theorem Stl.eqn {ends f:Fl}(h:Stl ends f) {w:Str}{e:Tm}(hw:look ends w=some e) (hf:w∈f.map (·.1)):fsub f w=e.sub (fsub f):=by
  obtain ⟨p,hp,rfl⟩:=List.mem_map.mp hf
  obtain ⟨e',h1,h2,h3,_⟩:=h.inv.2 p hp
  rw [hw] at h1
  cases h1
  rw [<- fill_sub,<- h2]
  simp only [fsub,h3,Option.getD_some]
theorem Stl.clean {ends f:Fl}(h:Stl ends f):∀ p∈f,∀ x∈p.2.bl,look ends x=none/\∃ q∈ends,x∈q.2.bl:=by
  induction h with
  | nil=>intro p hp;cases hp
  | @snoc f w e hs hw hn hb ih =>
    intro p hp x hx
    rcases List.mem_append.mp hp with z | z
    · exact ih p z x hx
    · cases List.mem_singleton.mp z
      have hx:x∈(e.fill f).bl:=hx
      rw [fill_sub,bl_sub] at hx
      obtain ⟨v,hv,hx⟩:=hx
      cases hl:look f v with
      | none =>
        simp only [fsub,hl,Option.getD_none,Tm.bl,List.mem_singleton] at hx
        subst hx
        refine ⟨?_,(w,e),look_mem hw,hv⟩
        refine Classical.byContradiction fun y=>?_
        obtain ⟨t,ht⟩:=look_in (hb x hv y)
        rw [hl] at ht
        cases ht
      | some t =>
        simp only [fsub,hl,Option.getD_some] at hx
        exact ih (v,t) (look_mem hl) x hx
theorem Stl.best {ends f:Fl}{φ:Str->Tm}(h:Stl ends f) (hφ:∀ w e,look ends w=some e->φ w=e.sub φ):∀ w,(fsub f w).sub φ=φ w:=by
  induction h with
  | nil=>intro w;rfl
  | @snoc f w e hs hw hn hb ih =>
    intro x
    by_cases z:x=w
    · subst z
      simp only [fsub,look_new hn,Option.getD_some]
      rw [fill_sub,sub_sub,hφ x e hw]
      exact sub_congr e fun v _=>ih v
    · have:=ih x
      simp only [fsub,look_old z] at this |-
      exact this
end BF
namespace BF
open PySem
end BF
namespace BF
open PySem
variable {t u:Tm}{td:List Ln}{fo ba:Wp}
end BF
namespace BF
open PySem PySem.Spec PyProof.Rows L2
theorem str_ext {x y:Str}(h:x.cps.toList=y.cps.toList):x=y:=by
  cases x;cases y
  congr
  exact Array.ext' h
def rg (a b c:Nat):Bool:=decide (a<=c)&&decide (c<=b)
theorem stop_tw {p:Nat->Bool}{a k:List Nat}(ha:∀ c∈a,p c=true) (hk:Stop k) (h44:p 44=false) (h41:p 41=false):(a++k).takeWhile p=a:=by
  refine takeWhile_stop ha ?_
  rcases hk with rfl | ⟨r,rfl | rfl⟩
  · exact .inl rfl
  · exact .inr ⟨44,r,rfl,h44⟩
  · exact .inr ⟨41,r,rfl,h41⟩
end BF
namespace BF
open PySem PySem.Spec PyProof.Rows L2
theorem numS_split (n:Int):∃ (sg:List Nat) (m:Nat),numS n=sg++figs m/\((sg=[]/\n=(m:Int))\/(sg=[45]/\n = -(m:Int)/\m≠0)):=by
  cases n with
  | ofNat m=>exact ⟨[],m,numS_nn m,.inl ⟨rfl,rfl⟩⟩
  | negSucc m=>exact ⟨[45],m+1,numS_neg m,.inr ⟨rfl,rfl,by omega⟩⟩
theorem figs_rg (m:Nat):∀ c∈figs m,rg 48 57 c=true:=fun c hc=>by
  have:=figs_all m c hc
  unfold rg
  rw [decide_eq_true this.1,decide_eq_true this.2];rfl
theorem num_head {n:Int}(k:List Nat):∃ c r,numS n++k=c::r/\(c=45\/(48<=c/\c<=57)):=by
  obtain ⟨sg,m,h,hh⟩:=numS_split n
  rcases hh with ⟨rfl,_⟩ | ⟨rfl,_,_⟩
  · cases hf:figs m with
    | nil=>exact absurd hf (figs_ne m)
    | cons c r =>
      refine ⟨c,r++k,by rw [h,hf];rfl,.inr (figs_all m c (by rw [hf];simp))⟩
  · exact ⟨45,figs m++k,by rw [h];rfl,.inl rfl⟩
end BF
namespace BF
open PySem
def letter:Nat->Bool:=rg 97 122
def figure:Nat->Bool:=rg 48 57
def mkS (l:List Nat):Str:=⟨l.toArray⟩
theorem mkS_cps (l:List Nat):(mkS l).cps.toList=l:=by simp [mkS]
def Lw (w:Str):Prop:=w.cps.toList≠[]/\∀ c∈w.cps.toList,letter c=true
mutual
def Tm.Gd:Tm->Prop
  | .num _=>True
  | .name w=>Lw w
  | .blank w=>Lw w
  | .thing w ps=>Lw w/\ps≠[]/\GdL ps
def GdL:List Tm->Prop
  | []=>True
  | p::r=>p.Gd/\GdL r
end
abbrev Bg:=List (Str×List Tm)
def sgn (l:List Nat):List Nat:=if l.head?=some 45 then [45] else []
def unsg (l:List Nat):List Nat:=if l.head?=some 45 then l.tail else l
def numF (l:List Nat):Option (Int×List Nat) :=
  if (unsg l).takeWhile figure=[] then none
  else if ((unsg l).takeWhile figure).head?=some 48/\sgn l++(unsg l).takeWhile figure≠[48] then none
  else some (if sgn l=[] then (NumText.digitsVal ((unsg l).takeWhile figure):Int) else -(NumText.digitsVal ((unsg l).takeWhile figure):Int),(unsg l).dropWhile figure)
inductive LfR:List Nat->Bg->Option (Tm×List Nat×Bg)->Prop where
  | more {k r:List Nat}{b:Bg}{res}:k.takeWhile letter≠[]->k.dropWhile letter=40::r->LfR r ((mkS (k.takeWhile letter),[])::b) res->LfR k b res
  | name {k:List Nat}{b:Bg}:k.takeWhile letter≠[]->(k.dropWhile letter).head?≠some 40->LfR k b (some (.name (mkS (k.takeWhile letter)),k.dropWhile letter,b))
  | blank {k r:List Nat}{b:Bg}:k=63::r->r.takeWhile letter≠[]->LfR k b (some (.blank (mkS (r.takeWhile letter)),r.dropWhile letter,b))
  | noblank {k r:List Nat}{b:Bg}:k=63::r->r.takeWhile letter=[]->LfR k b none
  | num {k r:List Nat}{b:Bg}{n:Int}:k.takeWhile letter=[]->k.head?≠some 63->numF k=some (n,r)->LfR k b (some (.num n,r,b))
  | nonum {k:List Nat}{b:Bg}:k.takeWhile letter=[]->k.head?≠some 63->numF k=none->LfR k b none
inductive WhR:Tm->List Nat->Bg->Option Tm->Prop where
  | fin {t:Tm}:WhR t [] [] (some t)
  | behind {t:Tm}{c:Nat}{k:List Nat}:WhR t (c::k) [] none
  | comma {t t':Tm}{k k':List Nat}{w:Str}{d:List Tm}{b b':Bg}{res}:LfR k ((w,d++[t])::b) (some (t',k',b'))->WhR t' k' b' res->WhR t (44::k) ((w,d)::b) res
  | nocomma {t:Tm}{k:List Nat}{w:Str}{d:List Tm}{b:Bg}:LfR k ((w,d++[t])::b) none->WhR t (44::k) ((w,d)::b) none
  | close {t:Tm}{k:List Nat}{w:Str}{d:List Tm}{b:Bg}{res}:WhR (.thing w (d++[t])) k b res->WhR t (41::k) ((w,d)::b) res
  | neither {t:Tm}{k:List Nat}{f:Str×List Tm}{b:Bg}:k.head?≠some 44->k.head?≠some 41->WhR t k (f::b) none
inductive RdR:List Nat->Option Tm->Prop where
  | yes {l k:List Nat}{t:Tm}{b:Bg}{res}:LfR l [] (some (t,k,b))->WhR t k b res->RdR l res
  | no {l:List Nat}:LfR l [] none->RdR l none
theorem tw_dw {p:Nat->Bool}(l:List Nat):l.takeWhile p++l.dropWhile p=l:=List.takeWhile_append_dropWhile
end BF
namespace BF
open PySem
def Ch (l:List Nat) (b:Bg) (res:Option Tm):Prop:=(∃ t k b',LfR l b (some (t,k,b'))/\WhR t k b' res)\/(LfR l b none/\res=none)
theorem stop_lw {w:Str}{k:List Nat}(h:Lw w) (hk:Stop k):(w.cps.toList++k).takeWhile letter=w.cps.toList:=stop_tw h.2 hk (by decide) (by decide)
theorem dw_of {p:Nat->Bool}{a k:List Nat}(h:(a++k).takeWhile p=a):(a++k).dropWhile p=k:=by
  have e:=tw_dw (p:=p) (a++k)
  rw [h] at e
  exact List.append_cancel_left e
theorem mkS_self (w:Str):mkS w.cps.toList=w:=str_ext (mkS_cps _)
theorem stop_head {k:List Nat}(hk:Stop k):k.head?≠some 40:=by
  rcases hk with rfl | ⟨r,rfl | rfl⟩ <;> simp
theorem fig_stop {m:Nat}{k:List Nat}(hk:Stop k):(figs m++k).takeWhile figure=figs m:=stop_tw (figs_rg m) hk (by decide) (by decide)
theorem figs_head {m:Nat}:(figs m).head?=some 48->figs m=[48]:=by
  intro h
  cases e:figs m with
  | nil=>rw [e] at h;simp at h
  | cons c r =>
    rw [e] at h
    simp only [List.head?_cons,Option.some.injEq] at h
    subst h
    have:=figs_nought m r e
    subst this
    rw [figs_one (by decide)] at e
    exact e.symm
theorem fig_head45 (m:Nat) (k:List Nat):(figs m++k).head?≠some 45:=by
  cases e:figs m with
  | nil=>exact absurd e (figs_ne m)
  | cons c r =>
    have:=figs_all m c (by rw [e];simp)
    simp only [List.cons_append,List.head?_cons,ne_eq,Option.some.injEq]
    omega
theorem num_reads {n:Int}{k:List Nat}(hk:Stop k):numF (numS n++k)=some (n,k):=by
  obtain ⟨sg,m,e,hh⟩:=numS_split n
  rcases hh with ⟨rfl,rfl⟩ | ⟨rfl,rfl,hm⟩
  · rw [e,List.nil_append]
    have h1:sgn (figs m++k)=[]:=by unfold sgn;rw [if_neg (fig_head45 m k)]
    have h2:unsg (figs m++k)=figs m++k:=by unfold unsg;rw [if_neg (fig_head45 m k)]
    unfold numF
    rw [h1,h2,fig_stop hk,if_neg (figs_ne m),if_neg (fun z=>z.2 (by rw [List.nil_append];exact figs_head z.1)),if_pos rfl,figs_val,dw_of (fig_stop hk)]
  · rw [e]
    have h1:sgn ([45]++figs m++k)=[45]:=rfl
    have h2:unsg ([45]++figs m++k)=figs m++k:=rfl
    have h3:(figs m).head?≠some 48:=fun z=>by
      have y:=figs_head z
      have:=figs_nought m [] y
      exact hm this
    unfold numF
    rw [h1,h2,fig_stop hk,if_neg (figs_ne m),if_neg (fun z=>h3 z.1),if_neg (by simp),figs_val,dw_of (fig_stop hk)]
theorem num_noletter {n:Int}{k:List Nat}:(numS n++k).takeWhile letter=[]/\(numS n++k).head?≠some 63:=by
  obtain ⟨c,r,e,hc⟩:=num_head (n:=n) k
  rw [e]
  constructor
  · rw [List.takeWhile_cons,if_neg]
    unfold letter rg
    rw [Bool.and_eq_true,decide_eq_true_eq,decide_eq_true_eq]
    omega
  · simp only [List.head?_cons,ne_eq,Option.some.injEq]
    omega
theorem gdL_mem {p:Tm}:∀ {l:List Tm},GdL l->p∈l->p.Gd
  | x::r,h,hm=>by
    rcases List.mem_cons.mp hm with rfl | hm
    · exact h.1
    · exact gdL_mem h.2 hm
theorem stop_tail (ps:List Tm) (k:List Nat):Stop (tailL ps++41::k):=by
  cases ps with
  | nil=>exact .inr ⟨k,.inr rfl⟩
  | cons p r=>exact .inr ⟨_,.inl rfl⟩
theorem reads (t:Tm):∀ (k:List Nat) (b:Bg) (res:Option Tm),t.Gd->Stop k->WhR t k b res->Ch (t.line++k) b res:=by
  induction t using Tm.ind with
  | h1 n =>
    intro k b res _ hk h
    exact .inl ⟨_,_,_,.num (num_noletter (n:=n)).1 (num_noletter (n:=n)).2 (num_reads hk),h⟩
  | h2 w =>
    intro k b res hg hk h
    have e:=stop_lw hg hk
    have hl:LfR (w.cps.toList++k) b (some (.name (mkS ((w.cps.toList++k).takeWhile letter)),(w.cps.toList++k).dropWhile letter,b)):=.name (by rw [e];exact hg.1) (by rw [dw_of e];exact stop_head hk)
    rw [e,dw_of e,mkS_self] at hl
    exact .inl ⟨_,_,_,hl,h⟩
  | h3 w =>
    intro k b res hg hk h
    have e:=stop_lw hg hk
    have hl:LfR (63::(w.cps.toList++k)) b (some (.blank (mkS ((w.cps.toList++k).takeWhile letter)),(w.cps.toList++k).dropWhile letter,b)):=.blank rfl (by rw [e];exact hg.1)
    rw [e,dw_of e,mkS_self] at hl
    exact .inl ⟨_,_,_,hl,h⟩
  | h4 w ps ih =>
    intro k b res hg hk h
    simp only [Tm.Gd] at hg
    obtain ⟨hw,hne,hgl⟩:=hg
    have parts:∀ (qs:List Tm) (p:Tm) (d:List Tm),(∀ q∈qs,q∈ps)->WhR (.thing w (d++p::qs)) k b res->WhR p (tailL qs++41::k) ((w,d)::b) res:=by
      intro qs
      induction qs with
      | nil=>intro p d _ hw';exact .close hw'
      | cons q qs ih2 =>
        intro p d hm hw'
        have hq:WhR q (tailL qs++41::k) ((w,d++[p])::b) res:=ih2 q (d++[p]) (fun x hx=>hm x (by simp [hx])) (by simpa using hw')
        have hc:=ih q (hm q (by simp)) _ _ _ (gdL_mem hgl (hm q (by simp))) (stop_tail qs k) hq
        have e:tailL (q::qs)++41::k=44::(q.line++(tailL qs++41::k)):=by simp [tailL]
        rw [e]
        rcases hc with ⟨t',k',b',h1,h2⟩ | ⟨h1,rfl⟩
        · exact .comma h1 h2
        · exact .nocomma h1
    cases ps with
    | nil=>exact absurd rfl hne
    | cons p qs =>
      have hp:=parts qs p [] (fun q hq=>by simp [hq]) h
      have hc:=ih p (by simp) _ _ _ (gdL_mem hgl (by simp)) (stop_tail qs k) hp
      have el:(Tm.thing w (p::qs)).line++k=w.cps.toList++40::(p.line++(tailL qs++41::k)):=by simp [Tm.line,lineL]
      have e:(w.cps.toList++40::(p.line++(tailL qs++41::k))).takeWhile letter=w.cps.toList:=takeWhile_stop hw.2 (.inr ⟨40,_,rfl,by decide⟩)
      have more:∀ r,LfR (p.line++(tailL qs++41::k)) ((w,[])::b) r->LfR ((Tm.thing w (p::qs)).line++k) b r:=fun r hr=>by
        rw [el]
        exact .more (by rw [e];exact hw.1) (dw_of e) (by rw [e,mkS_self];exact hr)
      rcases hc with ⟨t',k',b',h1,h2⟩ | ⟨h1,rfl⟩
      · exact .inl ⟨_,_,_,more _ h1,h2⟩
      · exact .inr ⟨more _ h1,rfl⟩
theorem rd_reads {t:Tm}(h:t.Gd):RdR t.line (some t):=by
  have hc:=reads t [] [] (some t) h (.inl rfl) .fin
  rw [List.append_nil] at hc
  rcases hc with ⟨t',k',b',h1,h2⟩ | ⟨_,e⟩
  · exact .yes h1 h2
  · cases e
theorem lf_one {k:List Nat}{b:Bg}{r1:Option (Tm×List Nat×Bg)}(h:LfR k b r1):∀ r2,LfR k b r2->r1=r2:=by
  induction h with
  | more h1 h2 _ ih =>
    rename_i h3
    intro r2 g
    cases g with
    | more g1 g2 g3=>rw [h2] at g2;cases g2;exact ih _ g3
    | name g1 g2=>rw [h2] at g2;exact absurd rfl g2
    | blank g1 g2=>subst g1;exact absurd rfl h1
    | noblank g1 g2=>subst g1;exact absurd rfl h1
    | num g1 g2 g3=>exact absurd g1 h1
    | nonum g1 g2 g3=>exact absurd g1 h1
  | name h1 h2 =>
    intro r2 g
    cases g with
    | more g1 g2 g3=>rw [g2] at h2;exact absurd rfl h2
    | name g1 g2=>rfl
    | blank g1 g2=>subst g1;exact absurd rfl h1
    | noblank g1 g2=>subst g1;exact absurd rfl h1
    | num g1 g2 g3=>exact absurd g1 h1
    | nonum g1 g2 g3=>exact absurd g1 h1
  | blank h1 h2 =>
    subst h1
    intro r2 g
    cases g with
    | more g1 g2 g3=>exact absurd rfl g1
    | name g1 g2=>exact absurd rfl g1
    | blank g1 g2=>cases g1;rfl
    | noblank g1 g2=>cases g1;exact absurd g2 h2
    | num g1 g2 g3=>exact absurd rfl g2
    | nonum g1 g2 g3=>exact absurd rfl g2
  | noblank h1 h2 =>
    subst h1
    intro r2 g
    cases g with
    | more g1 g2 g3=>exact absurd rfl g1
    | name g1 g2=>exact absurd rfl g1
    | blank g1 g2=>cases g1;exact absurd h2 g2
    | noblank g1 g2=>rfl
    | num g1 g2 g3=>exact absurd rfl g2
    | nonum g1 g2 g3=>exact absurd rfl g2
  | num h1 h2 h3 =>
    intro r2 g
    cases g with
    | more g1 g2 g3=>exact absurd h1 g1
    | name g1 g2=>exact absurd h1 g1
    | blank g1 g2=>subst g1;exact absurd rfl h2
    | noblank g1 g2=>subst g1;exact absurd rfl h2
    | num g1 g2 g3=>rw [h3] at g3;cases g3;rfl
    | nonum g1 g2 g3=>rw [h3] at g3;cases g3
  | nonum h1 h2 h3 =>
    intro r2 g
    cases g with
    | more g1 g2 g3=>exact absurd h1 g1
    | name g1 g2=>exact absurd h1 g1
    | blank g1 g2=>subst g1;exact absurd rfl h2
    | noblank g1 g2=>subst g1;exact absurd rfl h2
    | num g1 g2 g3=>rw [h3] at g3;cases g3
    | nonum g1 g2 g3=>rfl
theorem wh_one {t:Tm}{k:List Nat}{b:Bg}{r1:Option Tm}(h:WhR t k b r1):∀ r2,WhR t k b r2->r1=r2:=by
  induction h with
  | fin=>intro r2 g;cases g;rfl
  | behind=>intro r2 g;cases g;rfl
  | comma h1 _ ih =>
    intro r2 g
    cases g with
    | comma g1 g2=>have:=lf_one h1 _ g1;cases this;exact ih _ g2
    | nocomma g1=>have:=lf_one h1 _ g1;cases this
    | neither g1 g2=>exact absurd rfl g1
  | nocomma h1 =>
    intro r2 g
    cases g with
    | comma g1 g2=>have:=lf_one h1 _ g1;cases this
    | nocomma g1=>rfl
    | neither g1 g2=>rfl
  | close _ ih =>
    intro r2 g
    cases g with
    | close g1=>exact ih _ g1
    | neither g1 g2=>exact absurd rfl g2
  | neither h1 h2 =>
    intro r2 g
    cases g with
    | comma g1 g2=>exact absurd rfl h1
    | nocomma g1=>rfl
    | close g1=>exact absurd rfl h2
    | neither g1 g2=>rfl
theorem rd_one {l:List Nat}{r1 r2:Option Tm}(h:RdR l r1) (g:RdR l r2):r1=r2:=by
  cases h with
  | yes h1 h2 =>
    cases g with
    | yes g1 g2=>have:=lf_one h1 _ g1;cases this;exact wh_one h2 _ g2
    | no g1=>have:=lf_one h1 _ g1;cases this
  | no h1 =>
    cases g with
    | yes g1 g2=>have:=lf_one h1 _ g1;cases this
    | no g1=>rfl
end BF
namespace BF
open PySem Classical
theorem Tm.Ok.gd {t:Tm}:t.Ok->t.Gd:=by
  refine Tm.ind (P:=fun t=>t.Ok->t.Gd) (fun _ _=>trivial) (fun x h=>?_) (fun x h=>?_) (fun x ps ih h=>?_) t
  · simp only [Tm.Ok] at h;simp only [Tm.Gd];exact ⟨fun z=>by have:=h.1;rw [z] at this;simp at this,fun c hc=>by have:=h.2.2 c hc;simp [letter,rg,this]⟩
  · simp only [Tm.Ok] at h;simp only [Tm.Gd];exact ⟨fun z=>by have:=h.1;rw [z] at this;simp at this,fun c hc=>by have:=h.2.2 c hc;simp [letter,rg,this]⟩
  · simp only [Tm.Ok] at h
    simp only [Tm.Gd]
    refine ⟨⟨fun z=>by have:=h.1.1;rw [z] at this;simp at this,fun c hc=>by have:=h.1.2.2 c hc;simp [letter,rg,this]⟩,h.2.1,?_⟩
    have h2:=h.2.2
    clear h
    induction ps with
    | nil=>trivial
    | cons p r ih2 =>
      simp only [OkL] at h2
      simp only [GdL]
      exact ⟨ih p (by simp) h2.1,ih2 (fun q hq=>ih q (by simp [hq])) h2.2⟩
theorem line_inj {t u:Tm}(ht:t.Ok) (hu:u.Ok) (h:t.line=u.line):t=u:=by
  have h1:=rd_reads ht.gd
  have h2:=rd_reads hu.gd
  rw [h] at h1
  exact Option.some.inj (rd_one h1 h2)
abbrev On:=Tm->Option Nat
noncomputable def putN (on:On) (t:Tm) (n:Nat):On:=fun s=>if s=t then some n else on s
abbrev Lf:=Ln×RI
structure Rst (g:Ln) (U:List Tm) (fs:List Lf) (on:On):Prop where
  snd:Snd g [] fs
  inU:∀ x∈fs,x.1.1∈U/\x.1.2∈U
  key:∀ t n,on t=some n->∃ x,fs[n]?=some x/\x.1.1=t
def nxOf (fs:List Lf) (on:On):Nx:=fun t=>(on t).bind fun n=>(fs[n]?).map fun x=>x.1.2
theorem get_app {fs gs:List Lf}{n:Nat}{x:Lf}(h:fs[n]?=some x):(fs++gs)[n]?=some x:=by
  have:=(List.getElem?_eq_some_iff.mp h).1
  rw [List.getElem?_append_left this];exact h
theorem Rst.add {g:Ln}{U:List Tm}{fs:List Lf}{on:On}{p:Ln}{r:RI}(h:Rst g U fs on) (hl:Leads (fs.map (·.1)) g r p) (h1:p.1∈U) (h2:p.2∈U):Rst g U (fs++[(p,r)]) on/\nxOf (fs++[(p,r)]) on=nxOf fs on:=by
  refine ⟨⟨(snd_snoc g fs (p,r) []).mpr ⟨h.snd,by simpa using hl⟩,fun x hx=>?_,fun t n e=>?_⟩,?_⟩
  · rcases List.mem_append.mp hx with z | z
    · exact h.inU x z
    · cases List.mem_singleton.mp z;exact ⟨h1,h2⟩
  · obtain ⟨x,e1,e2⟩:=h.key t n e
    exact ⟨x,get_app e1,e2⟩
  · funext t
    unfold nxOf
    cases e:on t with
    | none=>rfl
    | some n =>
      obtain ⟨x,e1,e2⟩:=h.key t n e
      simp only [Option.bind_some,e1,get_app e1]
theorem Rst.lead {g:Ln}{U:List Tm}{fs:List Lf}{on:On}{n:Nat}{x:Lf}(h:Rst g U fs on) (hn:fs[n]?=some x):Rst g U fs (putN on x.1.1 n)/\nxOf fs (putN on x.1.1 n)=put (nxOf fs on) x.1.1 x.1.2:=by
  refine ⟨⟨h.snd,h.inU,fun t m e=>?_⟩,?_⟩
  · unfold putN at e
    split at e
    · rename_i c
      cases e
      exact ⟨x,hn,c.symm⟩
    · exact h.key t m e
  · funext t
    unfold nxOf putN put
    by_cases c:t=x.1.1
    · rw [if_pos c,if_pos c];simp [hn]
    · rw [if_neg c,if_neg c]
theorem leads_turn {g:Ln}{fs:List Lf}{n:Nat}{x:Lf}(hn:fs[n]?=some x):Leads (fs.map (·.1)) g (.turn (n:Nat)) (x.1.2,x.1.1):=by
  have hl:=(List.getElem?_eq_some_iff.mp hn).1
  refine ⟨.turn n,?_,x.1,?_,rfl⟩
  · simp only [RI.val,zLM]
    rw [if_pos ⟨by omega,by omega⟩]
    simp
  · rw [List.getElem?_map,hn];rfl
theorem leads_chain {g:Ln}{fs:List Lf}{n m:Nat}{x y:Lf}(hn:fs[n]?=some x) (hm:fs[m]?=some y) (e:x.1.2=y.1.1):Leads (fs.map (·.1)) g (.chain (n:Nat) (m:Nat)) (x.1.1,y.1.2):=by
  have hl:=(List.getElem?_eq_some_iff.mp hn).1
  have hl2:=(List.getElem?_eq_some_iff.mp hm).1
  refine ⟨.chain n m,?_,x.1.1,x.1.2,y.1.2,?_,?_,rfl⟩
  · simp only [RI.val,zLM]
    rw [if_pos ⟨⟨by omega,by omega⟩,by omega,by omega⟩]
    simp
  · rw [List.getElem?_map,hn];rfl
  · rw [List.getElem?_map,hm,e];rfl
theorem leads_part {g:Ln}{fs:List Lf}{n k:Nat}{w:Str}{ps qs:List Tm}{r:RI}{a b:Tm}(hn:fs[n]?=some ((.thing w ps,.thing w qs),r)) (hl:ps.length=qs.length) (ha:ps[k]?=some a) (hb:qs[k]?=some b):Leads (fs.map (·.1)) g (.part (n:Nat) (k:Nat)) (a,b):=by
  have hl':=(List.getElem?_eq_some_iff.mp hn).1
  refine ⟨.part n k,?_,w,ps,qs,a,b,?_,hl,ha,hb,rfl⟩
  · simp only [RI.val,zLM]
    rw [if_pos ⟨⟨by omega,by omega⟩,by omega⟩]
    simp
  · rw [List.getElem?_map,hn];rfl
structure Keep (g:Ln) (nx nx':Nx):Prop where
  non:∀ s,nx' s=none↔nx s=none
  rch:∀ s j f,Rch nx j s f->∃ i,Rch nx' i s f
  inv:∀ pd,UInv g nx pd->UInv g nx' pd
theorem Keep.refl {g:Ln}{nx:Nx}:Keep g nx nx:=⟨fun _=>Iff.rfl,fun _ j _ h=>⟨j,h⟩,fun _ h=>h⟩
theorem Keep.trans {g:Ln}{a b c:Nx}(h:Keep g a b) (k:Keep g b c):Keep g a c :=
  ⟨fun s=>(k.non s).trans (h.non s),fun s j f r=>let ⟨i,r'⟩:=h.rch s j f r;k.rch s i f r',fun pd u=>k.inv pd (h.inv pd u)⟩
theorem Keep.short {g:Ln}{nx:Nx}{t e:Tm}{k:Nat}(r:Rch nx (k+1) t e):Keep g nx (put nx t e):=by
  refine ⟨fun s=>?_,fun s j f h=>?_,fun pd u=>u.short r⟩
  · by_cases c:s=t
    · subst c
      rw [put_same]
      cases r with
      | step hs _=>rw [hs];simp
    · rw [put_ne c]
  · obtain ⟨i,_,h'⟩:=r.short h
    exact ⟨i,h'⟩
theorem Keep.pos {g:Ln}{nx nx':Nx}(h:Keep g nx nx') {k:Nat}{t e:Tm}(r:Rch nx (k+1) t e):∃ i,Rch nx' (i+1) t e:=by
  obtain ⟨i,r'⟩:=h.rch _ _ _ r
  cases i with
  | zero =>
    cases r with
    | step hs _ =>
      cases r' with
      | root hn=>rw [(h.non _).mp hn] at hs;cases hs
  | succ i=>exact ⟨i,r'⟩
theorem Rch.mono_app {g:Ln}{U:List Tm}{fs:List Lf}{on:On}(h:Rst g U fs on) {t u:Tm}(hn:nxOf fs on t=some u):∃ n x,on t=some n/\fs[n]?=some x/\x.1=(t,u):=by
  unfold nxOf at hn
  cases e:on t with
  | none=>rw [e] at hn;cases hn
  | some n =>
    obtain ⟨x,e1,e2⟩:=h.key t n e
    rw [e] at hn
    simp only [Option.bind_some,e1,Option.map_some,Option.some.injEq] at hn
    exact ⟨n,x,rfl,e1,Prod.ext e2 hn⟩
theorem nx_none {fs:List Lf}{on:On}{g:Ln}{U:List Tm}(h:Rst g U fs on) {t:Tm}:nxOf fs on t=none↔on t=none:=by
  unfold nxOf
  cases e:on t with
  | none=>simp
  | some n =>
    obtain ⟨x,e1,e2⟩:=h.key t n e
    simp [e1]
theorem nx_inU {fs:List Lf}{on:On}{g:Ln}{U:List Tm}(h:Rst g U fs on) {t u:Tm}(e:nxOf fs on t=some u):t∈U/\u∈U:=by
  obtain ⟨n,x,_,e1,e2⟩:=Rch.mono_app h e
  have:=h.inU x (List.mem_of_getElem? e1)
  rw [e2] at this
  exact this
theorem rch_inU {fs:List Lf}{on:On}{g:Ln}{U:List Tm}(h:Rst g U fs on) {k:Nat}{t e:Tm}(r:Rch (nxOf fs on) k t e) (ht:t∈U):e∈U:=by
  induction r with
  | root _=>exact ht
  | step hs _ ih=>exact ih (nx_inU h hs).2
theorem rch_len {fs:List Lf}{on:On}{g:Ln}{U:List Tm}(h:Rst g U fs on) {k:Nat}{t e:Tm}(r:Rch (nxOf fs on) k t e):k<=U.length:=r.len fun _ _ e=>(nx_inU h e).1
inductive Way (fs:List Lf) (on:On) (t:Tm):List Nat->Tm->Prop
  | nil:Way fs on t [] t
  | snoc {ns:List Nat}{c:Tm}{n:Nat}{x:Lf}:Way fs on t ns c->on c=some n->fs[n]?=some x->x.1.1=c->Way fs on t (ns++[n]) x.1.2
theorem Way.unsnoc {fs:List Lf}{on:On}{t d:Tm}{ms:List Nat}(h:Way fs on t ms d):∀ {ns:List Nat}{n:Nat},ms=ns++[n]->∃ c x,Way fs on t ns c/\on c=some n/\fs[n]?=some x/\x.1=(c,d):=by
  cases h with
  | nil=>intro ns n e;simp at e
  | snoc h1 h2 h3 h4 =>
    intro ns n e
    obtain ⟨e1,e2⟩:=List.append_inj' e rfl
    cases e2
    subst e1
    exact ⟨_,_,h1,h2,h3,Prod.ext h4 rfl⟩
theorem Way.rch {fs:List Lf}{on:On}{t c e:Tm}{ns:List Nat}(h:Way fs on t ns c) {k:Nat}(r:Rch (nxOf fs on) k t e):∃ j,Rch (nxOf fs on) j c e/\k=ns.length+j:=by
  induction h with
  | nil=>exact ⟨k,r,by simp⟩
  | @snoc ns c n x h1 h2 h3 h4 ih =>
    obtain ⟨j,r',e'⟩:=ih
    have hn:nxOf fs on c=some x.1.2:=by unfold nxOf;rw [h2];simp [h3]
    cases r' with
    | root z=>rw [z] at hn;cases hn
    | step z r'' =>
      rw [hn] at z
      cases z
      exact ⟨_,r'',by rw [zLA];simp;omega⟩
def ar:Tm->Nat
  | .thing _ ps=>ps.length
  | _=>0
noncomputable def meas (U:List Tm) (nx:Nx):Nat:=(U.map fun t=>if nx t=none then ar t else 0).sum
theorem meas_keep {g:Ln}{U:List Tm}{nx nx':Nx}(h:Keep g nx nx'):meas U nx'=meas U nx:=by
  unfold meas
  congr 1
  refine List.map_congr_left fun t _=>?_
  by_cases c:nx t=none
  · rw [if_pos c,if_pos ((h.non t).mpr c)]
  · rw [if_neg c,if_neg (fun z=>c ((h.non t).mp z))]
theorem meas_put {U:List Tm}{nx:Nx}{c d:Tm}(hc:nx c=none) (hU:c∈U):meas U (put nx c d)+ar c<=meas U nx:=by
  have le:∀ l:List Tm,(l.map fun t=>if put nx c d t=none then ar t else 0).sum<=(l.map fun t=>if nx t=none then ar t else 0).sum:=fun l=>by
    induction l with
    | nil=>simp
    | cons a r ih =>
      simp only [List.map_cons,List.sum_cons]
      have:(if put nx c d a=none then ar a else 0)<=if nx a=none then ar a else 0:=by
        by_cases z:a=c
        · subst z;rw [put_same];simp
        · rw [put_ne z];exact Nat.le_refl _
      omega
  unfold meas
  induction U with
  | nil=>cases hU
  | cons a r ih =>
    simp only [List.map_cons,List.sum_cons]
    by_cases z:a=c
    · subst z
      have:=le r
      rw [put_same,hc]
      simp only [if_true,reduceCtorEq,if_false]
      omega
    · have:=ih (by rcases List.mem_cons.mp hU with y | y;exact absurd y.symm z;exact y)
      rw [put_ne z]
      omega
def parts2 (g:Ln):List Tm:=g.1.rp++g.2.rp
theorem rp_self (t:Tm):t∈t.rp:=by cases t <;> simp [Tm.rp]
theorem rpL_mem {ps:List Tm}{p u:Tm}(hp:p∈ps) (hu:u∈p.rp):u∈rpL ps:=by
  induction ps with
  | nil=>cases hp
  | cons a r ih =>
    simp only [rpL]
    rcases List.mem_cons.mp hp with z | z
    · subst z;exact List.mem_append_right _ hu
    · exact List.mem_append_left _ (ih z)
theorem rp_trans {t:Tm}:∀ u∈t.rp,∀ v∈u.rp,v∈t.rp:=by
  refine Tm.ind (P:=fun t=>∀ u∈t.rp,∀ v∈u.rp,v∈t.rp) (fun n u hu v hv=>?_) (fun n u hu v hv=>?_) (fun n u hu v hv=>?_) (fun x ps ih u hu v hv=>?_) t
  · simp only [Tm.rp,List.mem_singleton] at hu;subst hu;exact hv
  · simp only [Tm.rp,List.mem_singleton] at hu;subst hu;exact hv
  · simp only [Tm.rp,List.mem_singleton] at hu;subst hu;exact hv
  · simp only [Tm.rp] at hu |-
    rcases List.mem_cons.mp hu with z | z
    · subst z;simpa only [Tm.rp] using hv
    · refine List.mem_cons_of_mem _ ?_
      have:∃ p∈ps,u∈p.rp:=by
        clear ih hu hv
        induction ps with
        | nil=>simp [rpL] at z
        | cons a r ih2 =>
          simp only [rpL] at z
          rcases List.mem_append.mp z with y | y
          · obtain ⟨p,hp,hu⟩:=ih2 y
            exact ⟨p,by simp [hp],hu⟩
          · exact ⟨a,by simp,y⟩
      obtain ⟨p,hp,hu'⟩:=this
      exact rpL_mem hp (ih p hp u hu' v hv)
theorem rp_ok {t:Tm}:t.Ok->∀ u∈t.rp,u.Ok:=by
  refine Tm.ind (P:=fun t=>t.Ok->∀ u∈t.rp,u.Ok) (fun n h u hu=>?_) (fun n h u hu=>?_) (fun n h u hu=>?_) (fun x ps ih h u hu=>?_) t
  · simp only [Tm.rp,List.mem_singleton] at hu;subst hu;exact h
  · simp only [Tm.rp,List.mem_singleton] at hu;subst hu;exact h
  · simp only [Tm.rp,List.mem_singleton] at hu;subst hu;exact h
  · simp only [Tm.rp] at hu
    rcases List.mem_cons.mp hu with z | z
    · subst z;exact h
    · simp only [Tm.Ok] at h
      have h2:=h.2.2
      clear hu h
      induction ps with
      | nil=>simp [rpL] at z
      | cons a r ih2 =>
        simp only [rpL] at z
        simp only [OkL] at h2
        rcases List.mem_append.mp z with y | y
        · exact ih2 (fun p hp=>ih p (by simp [hp])) y h2.2
        · exact ih a (by simp) h2.1 u y
theorem parts2_part {g:Ln}{w:Str}{ps:List Tm}{p:Tm}(h:Tm.thing w ps∈parts2 g) (hp:p∈ps):p∈parts2 g:=by
  have hin:p∈(Tm.thing w ps).rp:=by
    simp only [Tm.rp]
    exact List.mem_cons_of_mem _ (rpL_mem hp (rp_self p))
  unfold parts2 at h |-
  rcases List.mem_append.mp h with z | z
  · exact List.mem_append_left _ (rp_trans _ z _ hin)
  · exact List.mem_append_right _ (rp_trans _ z _ hin)
theorem ar_rp (t:Tm):(t.rp.map ar).sum+1=t.nodes:=by
  refine Tm.ind (P:=fun t=>(t.rp.map ar).sum+1=t.nodes) (fun _=>rfl) (fun _=>rfl) (fun _=>rfl) (fun x ps ih=>?_) t
  simp only [Tm.rp,List.map_cons,List.sum_cons,ar,Tm.nodes]
  have:((rpL ps).map ar).sum+ps.length=nodesL ps:=by
    induction ps with
    | nil=>simp [rpL,nodesL]
    | cons a r ih2 =>
      have h1:=ih a (by simp)
      have h2:=ih2 fun p hp=>ih p (by simp [hp])
      simp only [rpL,List.map_append,List.sum_append,nodesL,zLC]
      omega
  omega
theorem meas_start (g:Ln):meas (parts2 g) (fun _=>none)+2=g.1.nodes+g.2.nodes:=by
  unfold meas parts2
  simp only [if_true,List.map_append,List.sum_append]
  have h1:=ar_rp g.1
  have h2:=ar_rp g.2
  have e1:(g.1.rp.map fun t=>ar t)=g.1.rp.map ar:=rfl
  have e2:(g.2.rp.map fun t=>ar t)=g.2.rp.map ar:=rfl
  rw [e1,e2]
  omega
end BF
namespace BF
open PySem PySem.Spec PyProof.Rows L2
def flRk (L O:Addr) (cl:V):List (Str×V):=[("lines",.ref L),("onward",.ref O),("clash",cl)]
theorem lk_lines {L O:Addr}{cl:V}:(flRk L O cl).lookup ("lines":Str)=some (V.ref L):=by
  unfold flRk
  rw [List.lookup_cons]
  rw [show (("lines":Str)==("lines":Str))=true by decide +kernel]
theorem lk_onward {L O:Addr}{cl:V}:(flRk L O cl).lookup ("onward":Str)=some (V.ref O):=by
  unfold flRk
  rw [List.lookup_cons,show (("onward":Str)==("lines":Str))=false by decide +kernel]
  rw [List.lookup_cons,show (("onward":Str)==("onward":Str))=true by decide +kernel]
theorem lk_clash {L O:Addr}{cl:V}:(flRk L O cl).lookup ("clash":Str)=some cl:=by
  unfold flRk
  rw [List.lookup_cons,show (("clash":Str)==("lines":Str))=false by decide +kernel]
  rw [List.lookup_cons,show (("clash":Str)==("onward":Str))=false by decide +kernel]
  rw [List.lookup_cons,show (("clash":Str)==("clash":Str))=true by decide +kernel]
theorem lk_none {L O:Addr}{cl:V}{m:Str}(h1:(m=="lines")=false) (h2:(m=="onward")=false) (h3:(m=="clash")=false):(flRk L O cl).lookup m=none:=by
  unfold flRk
  rw [List.lookup_cons,h1,List.lookup_cons,h2,List.lookup_cons,h3,List.lookup_nil]
theorem put_clash {L O:Addr}{cl cl':V}:L2.putF "clash" cl' (flRk L O cl)=flRk L O cl':=by
  unfold flRk
  simp only [L2.putF]
  rw [if_neg (by decide +kernel),if_neg (by decide +kernel),if_pos True.intro]
theorem init_rk (L O:Addr):L2.putF "clash" .non (L2.putF "onward" (.ref O) (L2.putF "lines" (.ref L) []))=flRk L O .non:=by
  unfold flRk
  simp only [L2.putF]
  rw [if_neg (by decide +kernel)]
  simp only [L2.putF]
  rw [if_neg (by decide +kernel),if_neg (by decide +kernel)]
def onV:Option Nat->V
  | none=>.non
  | some n=>.int (n:Nat)
def OnOf (U:List Tm) (kvs:List (Key×V)) (on:On):Prop:=∀ t∈U,∀ x:Str,x.cps.toList=t.line->valV kvs (Sum.inr x)=(on t).map fun n=>V.int (n:Nat)
structure RK (C p dx L O:Addr) (g:Ln) (U:List Tm) (H:Hp) (fs:List Lf) (on:On) (cl:V) (N:Nat):Prop where
  self:H p=some (.ins C dx (flRk L O cl))
  ls:∃ ls,H L=some (.lst ls)/\LfAt H ls fs
  dic:∃ kvs,H O=some (.dK kvs)/\OnOf U kvs on/\kvs.length<=N
  len:fs.length<=N
  st:Rst g U fs on
  ok:∀ t∈U,t.Ok/\t.nodes<=90
def Fr3 (p L O:Addr) (H H':Hp):Prop:=∀ b o,H b=some o->b≠p->b≠L->b≠O->H' b=some o
theorem Fr3.trans {p L O:Addr}{H H1 H2:Hp}(a:Fr3 p L O H H1) (b:Fr3 p L O H1 H2):Fr3 p L O H H2:=fun c o h h1 h2 h3=>b c o (a c o h h1 h2 h3) h1 h2 h3
theorem Fr3.of {p L O:Addr}{H H':Hp}(s:Same H H'):Fr3 p L O H H':=fun b o h _ _ _=>s b o h
theorem RK.ts {C p dx L O:Addr}{g:Ln}{U:List Tm}{H H':Hp}{fs:List Lf}{on:On}{cl:V}{N:Nat}(h:RK C p dx L O g U H fs on cl N) (f:Fr3 p L O H H'):TSame H H':=fun b xs e=>by
  obtain ⟨ls,h1,_⟩:=h.ls
  obtain ⟨kvs,h2,_⟩:=h.dic
  exact f b _ e (ne_of e h.self (by intro z;cases z)) (ne_of e h1 (by intro z;cases z)) (ne_of e h2 (by intro z;cases z))
theorem RK.lst {C p dx L O:Addr}{g:Ln}{U:List Tm}{H H':Hp}{fs:List Lf}{on:On}{cl:V}{N:Nat}(h:RK C p dx L O g U H fs on cl N) (f:Fr3 p L O H H') {b:Addr}{xs:List V}(e:H b=some (.lst xs)) (hb:b≠L):H' b=some (.lst xs):=by
  obtain ⟨kvs,h2,_⟩:=h.dic
  exact f b _ e (ne_of e h.self (by intro z;cases z)) hb (ne_of e h2 (by intro z;cases z))
theorem RK.dct {C p dx L O:Addr}{g:Ln}{U:List Tm}{H H':Hp}{fs:List Lf}{on:On}{cl:V}{N:Nat}(h:RK C p dx L O g U H fs on cl N) (f:Fr3 p L O H H') {b:Addr}{xs:List (Key×V)}(e:H b=some (.dK xs)) (hb:b≠O):H' b=some (.dK xs):=by
  obtain ⟨ls,h2,_⟩:=h.ls
  exact f b _ e (ne_of e h.self (by intro z;cases z)) (ne_of e h2 (by intro z;cases z)) hb
theorem RK.same {C p dx L O:Addr}{g:Ln}{U:List Tm}{H H':Hp}{fs:List Lf}{on:On}{cl:V}{N:Nat}(h:RK C p dx L O g U H fs on cl N) (s:Same H H'):RK C p dx L O g U H' fs on cl N where
  self:=s _ _ h.self
  ls:=let ⟨ls,h1,h2⟩:=h.ls;⟨ls,s _ _ h1,h2.mono (.of s)⟩
  dic:=let ⟨k,h1,h2⟩:=h.dic;⟨k,s _ _ h1,h2⟩
  len:=h.len
  st:=h.st
  ok:=h.ok
theorem RK.more {C p dx L O:Addr}{g:Ln}{U:List Tm}{H:Hp}{fs:List Lf}{on:On}{cl:V}{N M:Nat}(h:RK C p dx L O g U H fs on cl N) (hm:N<=M):RK C p dx L O g U H fs on cl M where
  self:=h.self
  ls:=h.ls
  dic:=let ⟨k,h1,h2,h3⟩:=h.dic;⟨k,h1,h2,Nat.le_trans h3 hm⟩
  len:=Nat.le_trans h.len hm
  st:=h.st
  ok:=h.ok
theorem RK.ne {C p dx L O:Addr}{g:Ln}{U:List Tm}{H:Hp}{fs:List Lf}{on:On}{cl:V}{N:Nat}(h:RK C p dx L O g U H fs on cl N):p≠L/\p≠O/\L≠O:=by
  obtain ⟨ls,h1,_⟩:=h.ls
  obtain ⟨kvs,h2,_⟩:=h.dic
  exact ⟨ne_of h.self h1 (by intro z;cases z),ne_of h.self h2 (by intro z;cases z),ne_of h1 h2 (by intro z;cases z)⟩
theorem lf_get {H:Hp}{ls:List V}{fs:List Lf}(h:LfAt H ls fs) {n:Nat}{x:Lf}(hx:fs[n]?=some x):∃ a u v r,atI ls ((n:Nat):Int)=some (.ref a)/\H a=some (.tup [u,v,.ref r])/\H r=some (.tup (riL x.2))/\TermAt H u x.1.1/\TermAt H v x.1.2:=by
  have hl:ls.length=fs.length:=Paired.length h
  have hn:=(List.getElem?_eq_some_iff.mp hx).1
  obtain ⟨p,hp,a,u,v,r,e,h1,h2,h3,h4⟩:=paired_get h n ls[n] (List.getElem?_eq_getElem (by omega))
  rw [hx] at hp
  cases hp
  exact ⟨a,u,v,r,by rw [atI_nat (List.getElem?_eq_getElem (by omega)),e],h1,h2,h3,h4⟩
abbrev NumsAt (fs:List Lf) (ns:List Nat) (pd:List Ln):Prop:=Paired (fun n p=>∃ x,fs[n]?=some x/\x.1=p) ns pd
theorem NumsAt.app {fs gs:List Lf}{ns:List Nat}{pd:List Ln}(h:NumsAt fs ns pd):NumsAt (fs++gs) ns pd:=paired_mono (fun _ _ ⟨x,e1,e2⟩=>⟨x,get_app e1,e2⟩) h
def natL (ns:List Nat):List V:=ns.map fun n=>V.int (n:Nat)
theorem OnOf.put {U:List Tm}{kvs:List (Key×V)}{on:On}{t:Tm}{n:Nat}{x:Str}(h:OnOf U kvs on) (ok:∀ t∈U,t.Ok/\t.nodes<=90) (ht:t∈U) (hx:x.cps.toList=t.line):OnOf U (putK kvs (Sum.inr x) (.int (n:Nat))) (putN on t n):=fun u hu y hy=>by
  rw [valV_put]
  unfold putN
  by_cases c:u=t
  · subst c
    have:y=x:=by cases y with | mk a=>cases x with | mk b=>simp only [Str.mk.injEq];exact Array.ext' (hy.trans hx.symm)
    subst this
    rw [if_pos rfl,if_pos rfl]
    rfl
  · rw [if_neg c,if_neg (fun z=>c (line_inj (ok u hu).1 (ok t ht).1 (by rw [<- hy,<- hx,Sum.inr.inj z])))]
    exact h u hu y hy
theorem RK.put {C p dx L O:Addr}{g:Ln}{U:List Tm}{H:Hp}{fs:List Lf}{on:On}{cl:V}{N:Nat}(h:RK C p dx L O g U H fs on cl N) {b:Addr}{xs ys:List V}(e:H b=some (.lst xs)) (hb:b≠L):RK C p dx L O g U (upd H b (.lst ys)) fs on cl N where
  self:=by rw [upd_ne (ne_of h.self e (by intro z;cases z))];exact h.self
  ls:=let ⟨ls,h1,h2⟩:=h.ls;⟨ls,by rw [upd_ne hb.symm];exact h1,h2.mono (.lst e)⟩
  dic:=let ⟨k,h1,h2⟩:=h.dic;⟨k,by rw [upd_ne (ne_of h1 e (by intro z;cases z))];exact h1,h2⟩
  len:=h.len
  st:=h.st
  ok:=h.ok
theorem RK.free {C p dx L O:Addr}{g':Ln}{U':List Tm}{H H':Hp}{fs':List Lf}{on':On}{cl':V}{N':Nat}(h':RK C p dx L O g' U' H' fs' on' cl' N') (f:Fr3 p L O H H') {b:Addr}(hb:H' b=none):H b=none:=by
  obtain ⟨ls,h1,_⟩:=h'.ls
  obtain ⟨kvs,h2,_⟩:=h'.dic
  cases e:H b with
  | none=>rfl
  | some o =>
    have:=f b o e (fun z=>by rw [z,h'.self] at hb;cases hb) (fun z=>by rw [z,h1] at hb;cases hb) (fun z=>by rw [z,h2] at hb;cases hb)
    rw [this] at hb
    cases hb
theorem prd_rev {α β:Type}{F:α->β->Prop}{l:List α}{m:List β}(h:Paired F l m):Paired F l.reverse m.reverse:=by
  induction h with
  | nil=>exact .nil
  | cons a _ ih=>rw [List.reverse_cons,List.reverse_cons];exact paired_snoc ih a
theorem prd_app {α β:Type}{F:α->β->Prop}{us vs:List α}{ps qs:List β}(h:Paired F us ps) (h':Paired F vs qs):Paired F (us++vs) (ps++qs):=by
  induction h with
  | nil=>exact h'
  | cons a _ ih=>exact .cons a ih
theorem prd_unsnoc {α β:Type}{F:α->β->Prop}:∀ {us:List α}{u:α}{ds:List β}{d:β},Paired F (us++[u]) (ds++[d])->Paired F us ds/\F u d
  | [],_,[],_,.cons h .nil=>⟨.nil,h⟩
  | [],_,_::[],_,.cons _ r=>nomatch r
  | [],_,_::_::_,_,.cons _ r=>nomatch r
  | _::[],_,[],_,.cons _ r=>nomatch r
  | _::_::_,_,[],_,.cons _ r=>nomatch r
  | _::_,_,_::_,_,.cons h r=>let ⟨a,b⟩:=prd_unsnoc r;⟨.cons h a,b⟩
end BF
namespace BF
open PySem L2
theorem pss_as {X:Cx}{r:List Stmt}(T:TS) (h:PSs X r T):PSs X r T:=h
theorem let_ts {p:Prop}(v:TS) (k:let _T:TS:=v;p):p:=k
end BF
set_option maxHeartbeats 4000000
namespace K08
open PySem L2 BF
def top (i:Nat):Stmt:=PySem.Challenge.pw_blankform_k08_whole_best_filling.main.body.getD i (.Pass ⟨0,0,0,0⟩)
abbrev s_all_parts:Stmt:=top 1
theorem sc_all_parts:FnScope ["term","met","coming","part"] ["term"] (defScope s_all_parts):=⟨rfl,rfl,rfl,by decide +kernel,rfl,by decide +kernel,by decide +kernel⟩
abbrev s_blanks_of:Stmt:=top 2
theorem sc_blanks_of:FnScope ["term","words","part"] ["term"] (defScope s_blanks_of):=⟨rfl,rfl,rfl,by decide +kernel,rfl,by decide +kernel,by decide +kernel⟩
abbrev s_head:Stmt:=top 3
theorem sc_head:FnScope ["term"] ["term"] (defScope s_head):=⟨rfl,rfl,rfl,by decide +kernel,rfl,by decide +kernel,by decide +kernel⟩
abbrev s_same:Stmt:=top 4
theorem sc_same:FnScope ["one","other","coming","pair"] ["one","other"] (defScope s_same):=⟨rfl,rfl,rfl,by decide +kernel,rfl,by decide +kernel,by decide +kernel⟩
abbrev s_replaced:Stmt:=top 6
theorem sc_replaced:FnScope ["term","terms","made","part","parts"] ["term","terms"] (defScope s_replaced):=⟨rfl,rfl,rfl,by decide +kernel,rfl,by decide +kernel,by decide +kernel⟩
abbrev s_taken:Stmt:=top 7
theorem sc_taken:FnScope ["made","count","last"] ["made","count"] (defScope s_taken):=⟨rfl,rfl,rfl,by decide +kernel,rfl,by decide +kernel,by decide +kernel⟩
abbrev s_filling_of:Stmt:=top 8
theorem sc_filling_of:FnScope ["terms"] ["terms"] (defScope s_filling_of):=⟨rfl,rfl,rfl,by decide +kernel,rfl,by decide +kernel,by decide +kernel⟩
abbrev s_shown:Stmt:=top 10
theorem sc_shown:FnScope ["term","texts","coming","piece"] ["term"] (defScope s_shown):=⟨rfl,rfl,rfl,by decide +kernel,rfl,by decide +kernel,by decide +kernel⟩
abbrev s_push_parts:Stmt:=top 11
theorem sc_push_parts:FnScope ["coming","parts","part"] ["coming","parts"] (defScope s_push_parts):=⟨rfl,rfl,rfl,by decide +kernel,rfl,by decide +kernel,by decide +kernel⟩
abbrev s_shown_leaf:Stmt:=top 12
theorem sc_shown_leaf:FnScope ["term"] ["term"] (defScope s_shown_leaf):=⟨rfl,rfl,rfl,by decide +kernel,rfl,by decide +kernel,by decide +kernel⟩
abbrev s_Reckoning_init:Stmt:=inClass (top 14) 0
theorem sc_Reckoning_init:FnScope ["self","one","other"] ["self","one","other"] (defScope s_Reckoning_init):=⟨rfl,rfl,rfl,by decide +kernel,rfl,by decide +kernel,by decide +kernel⟩
abbrev s_Reckoning_work_out:Stmt:=inClass (top 14) 1
theorem sc_Reckoning_work_out:FnScope ["self","coming","number"] ["self"] (defScope s_Reckoning_work_out):=⟨rfl,rfl,rfl,by decide +kernel,rfl,by decide +kernel,by decide +kernel⟩
abbrev s_Reckoning_led_together:Stmt:=inClass (top 14) 2
theorem sc_Reckoning_led_together:FnScope ["self","number","line","between","one","other"] ["self","number"] (defScope s_Reckoning_led_together):=⟨rfl,rfl,rfl,by decide +kernel,rfl,by decide +kernel,by decide +kernel⟩
abbrev s_Reckoning_lead_on:Stmt:=inClass (top 14) 3
theorem sc_Reckoning_lead_on:FnScope ["self","number"] ["self","number"] (defScope s_Reckoning_lead_on):=⟨rfl,rfl,rfl,by decide +kernel,rfl,by decide +kernel,by decide +kernel⟩
abbrev s_Reckoning_line_on:Stmt:=inClass (top 14) 4
theorem sc_Reckoning_line_on:FnScope ["self","term"] ["self","term"] (defScope s_Reckoning_line_on):=⟨rfl,rfl,rfl,by decide +kernel,rfl,by decide +kernel,by decide +kernel⟩
abbrev s_Reckoning_line_to_end:Stmt:=inClass (top 14) 5
theorem sc_Reckoning_line_to_end:FnScope ["self","term","steps","number","whole","step"] ["self","term"] (defScope s_Reckoning_line_to_end):=⟨rfl,rfl,rfl,by decide +kernel,rfl,by decide +kernel,by decide +kernel⟩
abbrev s_Reckoning_end_of:Stmt:=inClass (top 14) 6
theorem sc_Reckoning_end_of:FnScope ["self","term","number"] ["self","term"] (defScope s_Reckoning_end_of):=⟨rfl,rfl,rfl,by decide +kernel,rfl,by decide +kernel,by decide +kernel⟩
abbrev s_Reckoning_between_ends:Stmt:=inClass (top 14) 7
theorem sc_Reckoning_between_ends:FnScope ["self","number","line","ahead","behind","between"] ["self","number"] (defScope s_Reckoning_between_ends):=⟨rfl,rfl,rfl,by decide +kernel,rfl,by decide +kernel,by decide +kernel⟩
abbrev s_Reckoning_part_lines:Stmt:=inClass (top 14) 8
theorem sc_Reckoning_part_lines:FnScope ["self","number","line","parts","place","pair"] ["self","number"] (defScope s_Reckoning_part_lines):=⟨rfl,rfl,rfl,by decide +kernel,rfl,by decide +kernel,by decide +kernel⟩
abbrev s_Reckoning_turned:Stmt:=inClass (top 14) 9
theorem sc_Reckoning_turned:FnScope ["self","number","line"] ["self","number"] (defScope s_Reckoning_turned):=⟨rfl,rfl,rfl,by decide +kernel,rfl,by decide +kernel,by decide +kernel⟩
abbrev s_Reckoning_chained:Stmt:=inClass (top 14) 10
theorem sc_Reckoning_chained:FnScope ["self","number","further"] ["self","number","further"] (defScope s_Reckoning_chained):=⟨rfl,rfl,rfl,by decide +kernel,rfl,by decide +kernel,by decide +kernel⟩
abbrev s_Reckoning_added:Stmt:=inClass (top 14) 11
theorem sc_Reckoning_added:FnScope ["self","one","other","reason"] ["self","one","other","reason"] (defScope s_Reckoning_added):=⟨rfl,rfl,rfl,by decide +kernel,rfl,by decide +kernel,by decide +kernel⟩
abbrev s_alike:Stmt:=top 16
theorem sc_alike:FnScope ["one","other","reckoning","numbers","ends","terms","filling"] ["one","other"] (defScope s_alike):=⟨rfl,rfl,rfl,by decide +kernel,rfl,by decide +kernel,by decide +kernel⟩
abbrev s_lines_by_word:Stmt:=top 17
theorem sc_lines_by_word:FnScope ["reckoning","words","numbers","word","number"] ["reckoning","words"] (defScope s_lines_by_word):=⟨rfl,rfl,rfl,by decide +kernel,rfl,by decide +kernel,by decide +kernel⟩
abbrev s_ends_by_word:Stmt:=top 18
theorem sc_ends_by_word:FnScope ["lines","numbers","ends","word","number"] ["lines","numbers"] (defScope s_ends_by_word):=⟨rfl,rfl,rfl,by decide +kernel,rfl,by decide +kernel,by decide +kernel⟩
abbrev s_settled:Stmt:=top 19
theorem sc_settled:FnScope ["ends","terms","ready","word"] ["ends"] (defScope s_settled):=⟨rfl,rfl,rfl,by decide +kernel,rfl,by decide +kernel,by decide +kernel⟩
abbrev s_ready_words:Stmt:=top 20
theorem sc_ready_words:FnScope ["ends","terms"] ["ends","terms"] (defScope s_ready_words):=⟨rfl,rfl,rfl,by decide +kernel,rfl,by decide +kernel,by decide +kernel⟩
abbrev s_words_ahead:Stmt:=top 21
theorem sc_words_ahead:FnScope ["ends","terms","word"] ["ends","terms","word"] (defScope s_words_ahead):=⟨rfl,rfl,rfl,by decide +kernel,rfl,by decide +kernel,by decide +kernel⟩
abbrev s_ring_of:Stmt:=top 22
theorem sc_ring_of:FnScope ["ends","terms","word","walked"] ["ends","terms"] (defScope s_ring_of):=⟨rfl,rfl,rfl,by decide +kernel,rfl,by decide +kernel,by decide +kernel⟩
abbrev s_law_whole:Stmt:=top 24
theorem sc_law_whole:FnScope ["_law_found"] ["_law_found"] (defScope s_law_whole):=⟨rfl,rfl,rfl,by decide +kernel,rfl,by decide +kernel,by decide +kernel⟩
abbrev s_law_any_word:Stmt:=top 25
theorem sc_law_any_word:FnScope ["_law_cell","_law_left","_law_word"] ["_law_cell"] (defScope s_law_any_word):=⟨rfl,rfl,rfl,by decide +kernel,rfl,by decide +kernel,by decide +kernel⟩
abbrev s_law_leaf:Stmt:=top 26
theorem sc_law_leaf:FnScope ["_law_cell","_law_way","_law_rare"] ["_law_cell"] (defScope s_law_leaf):=⟨rfl,rfl,rfl,by decide +kernel,rfl,by decide +kernel,by decide +kernel⟩
abbrev s_law_head:Stmt:=top 27
theorem sc_law_head:FnScope ["_law_cell"] ["_law_cell"] (defScope s_law_head):=⟨rfl,rfl,rfl,by decide +kernel,rfl,by decide +kernel,by decide +kernel⟩
abbrev s_law_many_parts:Stmt:=top 28
theorem sc_law_many_parts:FnScope ["_law_cell","_law_count"] ["_law_cell","_law_count"] (defScope s_law_many_parts):=⟨rfl,rfl,rfl,by decide +kernel,rfl,by decide +kernel,by decide +kernel⟩
abbrev s_law_called:Stmt:=top 29
theorem sc_law_called:FnScope ["_law_k","_law_signs","_law_word"] ["_law_k"] (defScope s_law_called):=⟨rfl,rfl,rfl,by decide +kernel,rfl,by decide +kernel,by decide +kernel⟩
abbrev s_law_steps:Stmt:=top 30
theorem sc_law_steps:FnScope ["_law_term","_law_row","_law_todo","_law_part"] ["_law_term"] (defScope s_law_steps):=⟨rfl,rfl,rfl,by decide +kernel,rfl,by decide +kernel,by decide +kernel⟩
abbrev s_law_fill:Stmt:=top 31
theorem sc_law_fill:FnScope ["_law_term","_law_pairs","_law_pile","_law_part","_law_made","_law_start","_law_pair"] ["_law_term","_law_pairs"] (defScope s_law_fill):=⟨rfl,rfl,rfl,by decide +kernel,rfl,by decide +kernel,by decide +kernel⟩
abbrev s_law_blanks:Stmt:=top 32
theorem sc_law_blanks:FnScope ["_law_term","_law_row","_law_part"] ["_law_term"] (defScope s_law_blanks):=⟨rfl,rfl,rfl,by decide +kernel,rfl,by decide +kernel,by decide +kernel⟩
abbrev s_law_hidden:Stmt:=top 33
theorem sc_law_hidden:FnScope ["_law_cells","_law_many","_law_pile","_law_seen","_law_cell","_law_found","_law_k","_law_size","_law_part","_law_trio","_law_blank","_law_hide","_law_start","_law_parts"] ["_law_cells","_law_many"] (defScope s_law_hidden):=⟨rfl,rfl,rfl,by decide +kernel,rfl,by decide +kernel,by decide +kernel⟩
abbrev s_law_letters:Stmt:=top 34
theorem sc_law_letters:FnScope ["_law_found","_law_sign"] ["_law_found"] (defScope s_law_letters):=⟨rfl,rfl,rfl,by decide +kernel,rfl,by decide +kernel,by decide +kernel⟩
abbrev s_law_small:Stmt:=top 35
theorem sc_law_small:FnScope ["_law_part"] ["_law_part"] (defScope s_law_small):=⟨rfl,rfl,rfl,by decide +kernel,rfl,by decide +kernel,by decide +kernel⟩
abbrev s_law_is_term:Stmt:=top 36
theorem sc_law_is_term:FnScope ["_law_found","_law_todo","_law_part"] ["_law_found"] (defScope s_law_is_term):=⟨rfl,rfl,rfl,by decide +kernel,rfl,by decide +kernel,by decide +kernel⟩
abbrev s_law_is_filling:Stmt:=top 37
theorem sc_law_is_filling:FnScope ["_law_found","_law_last","_law_pair"] ["_law_found"] (defScope s_law_is_filling):=⟨rfl,rfl,rfl,by decide +kernel,rfl,by decide +kernel,by decide +kernel⟩
abbrev s_law_good:Stmt:=top 38
theorem sc_law_good:FnScope ["_law_filling","_law_one","_law_other","_law_known","_law_gone","_law_pair","_law_word"] ["_law_filling","_law_one","_law_other"] (defScope s_law_good):=⟨rfl,rfl,rfl,by decide +kernel,rfl,by decide +kernel,by decide +kernel⟩
abbrev s_law_room:Stmt:=top 39
theorem sc_law_room:FnScope ["_law_script","_law_most","_law_bound"] ["_law_script","_law_most","_law_bound"] (defScope s_law_room):=⟨rfl,rfl,rfl,by decide +kernel,rfl,by decide +kernel,by decide +kernel⟩
abbrev s_law:Stmt:=top 40
theorem sc_law:FnScope ["_law_script","_law_cells","_law_drawn","_law_one","_law_other","_law_found","_law_word","_law_due"] ["_law_script"] (defScope s_law):=⟨rfl,rfl,rfl,by decide +kernel,rfl,by decide +kernel,by decide +kernel⟩
structure Bi (mg:Str->Option Value):Prop where
  b_len:mg "len"=none
  b_abs:mg "abs"=none
  b_isinstance:mg "isinstance"=none
  b_int:mg "int"=none
  b_bool:mg "bool"=none
  b_str:mg "str"=none
  b_tuple:mg "tuple"=none
  b_list:mg "list"=none
  b_reversed:mg "reversed"=none
  b_range:mg "range"=none
section
variable {P:Program}{w:World}{K:PySem.W.Frag}{mg:Str->Option Value}{base:Heap}
def spWord:Sp:=fun vs H Q _=>∃ i:Int,vs=[.int i]/\∀ x:Str,WR (wst i) "" x->Wd x->x.cps.toList.length<=30->Q (.str x) H
theorem ok_any_word {f:Addr}{fd:FuncData}(F:Fun K "_law_any_word" "_law_any_word" s_law_any_word f fd) (T:Bi mg):FnOk P w K mg base CX0 1 f fd ["_law_cell"] spWord:=by
  refine F.ok sc_law_any_word (fun vs H Q E h=>?_) (fun cdv A outer s H vs Q E hr h=>?_)
  · obtain ⟨i,rfl,_⟩:=h
    rfl
  obtain ⟨i,rfl,q⟩:=h
  apply let_ts;intro T1
  apply let_ts;intro T2
  apply let_ts;intro T3
  refine ⟨_,(pss_cons (ps_set (i:=1) sc_law_any_word.nd rfl (Or.inl rfl) (pe_op op_mod (pe_blt call_abs T.b_abs bt_abs (pa_cons (pv 0) pa_nil)) (pe_op op_pow pe_int pe_int))) (pss_as T3 (pss_cons (ps_set (i:=2) sc_law_any_word.nd rfl (Or.inl rfl) pe_str) (pss_as T2 (pss_cons (ps_while PassesOwn.never (pt_cmpR op_ge (pv 1) pe_int (nomark _)) (pss_as T1 (pss_cons (ps_set (i:=2) sc_law_any_word.nd rfl (Or.inl rfl) (pe_op op_add_str (pe_ix ix_str pe_str (pe_op op_mod (pv 1) pe_int) (fun _ _=>rfl)) (pv 2))) (pss_one (ps_set (i:=1) sc_law_any_word.nd rfl (Or.inl rfl) (pe_op op_sub (pe_op op_fdiv (pv 1) pe_int) pe_int)))))) (pss_one (ps_ret (pv 2)))))))),?_⟩
  refine ⟨_,rfl,_,rfl,_,_,rfl,rfl,⟨by decide,by decide,by decide⟩,_,_,rfl,rfl,(show (0:Int)<_ by decide +kernel),?_⟩
  refine ⟨fun m σ H1=>H1=H/\∃ (l:Int) (x:Str),σ=[some (.int i),some (.int l),some (.str x)]/\m=(l+1).toNat/\WI l x/\∀ y,WR l x y->WR (wst i) "" y,⟨_,rfl,_,_,rfl,rfl,WI.start i,fun _ h=>h⟩,?_⟩
  rintro m σ H1 ⟨rfl,l,x,rfl,rfl,hw,hwr⟩
  refine ⟨_,rfl,_,_,rfl,rfl,_,rfl,?_⟩
  refine ite2 (fun c=>⟨_,fun _ _ h=>h,?_⟩) (fun c=>?_)
  · have c':0<=l:=of_decide_eq_true c
    have hs:=hw.short c'
    have hb:0<=l % 26:=Int.emod_nonneg _ (by decide)
    have hb':l % 26<26:=Int.emod_lt_of_pos _ (by decide)
    obtain ⟨j,hj,hj'⟩:∃ j:Nat,l % 26=(j:Int)/\j<26:=⟨(l % 26).toNat,by omega,by omega⟩
    have hat:atI alpha.cps.toList (l % 26)=some (97+j):=by
      rw [hj]
      exact atI_nat (alpha_at j hj')
    refine ⟨_,rfl,_,_,rfl,rfl,(show (0:Int)<_ by decide),_,_,_,rfl,rfl,(by decide +kernel),hat,_,rfl,_,_,rfl,rfl,?_,?_⟩
    · rw [len_cps,len_cps]
      show 1+_<=sizeLine
      exact small (by omega)
    refine ⟨_,rfl,_,_,rfl,rfl,⟨by decide,by decide⟩,_,_,rfl,rfl,?_⟩
    refine ⟨(l / 26 - 1+1).toNat,by omega,rfl,_,_,rfl,rfl,hw.turn c' (by omega),fun y hy=>hwr y (.step c' ?_)⟩
    have ej:(l % 26).toNat=j:=by omega
    rw [ej]
    exact hy
  · have c':¬ 0<=l:=of_decide_eq_false (Bool.eq_false_iff.mpr c)
    refine ⟨_,rfl,?_⟩
    obtain ⟨h1,h2⟩:=hw.wd c'
    exact q x (hwr x (.done c')) h1 h2
def spLeaf:Sp:=fun vs H Q _=>∃ i:Int,vs=[.int i]/\∀ (v:V) (t:Tm) (H':Hp),Same H H'->TermAt H' v t->t.Ok->t.nodes=1->LfX t->Q v H'
theorem ok_leaf {f:Addr}{fd:FuncData}(F:Fun K "_law_leaf" "_law_leaf" s_law_leaf f fd) (T:Bi mg) (c__law_any_word:Cal P w K mg base 1 "_law_any_word" ["_law_cell"] spWord) :
    FnOk P w K mg base CX0 2 f fd ["_law_cell"] spLeaf:=by
  refine F.ok sc_law_leaf (fun vs H Q E h=>?_) (fun cdv A outer s H vs Q E hr h=>?_)
  · obtain ⟨i,rfl,_⟩:=h
    rfl
  obtain ⟨i,rfl,q⟩:=h
  have qn:∀ (n:Int) (p:Addr),H p=none -> -(10 ^ 61)<=n->n<=10 ^ 61->Q (.ref p) (upd H p (.tup [.str "number",.int n])):=fun n p hp h1 h2 =>
    q _ (.num n) _ (same_new hp _) (termAt_num.mpr ⟨p,rfl,upd_same⟩) (by simp only [Tm.Ok];exact ⟨h1,h2⟩) rfl trivial
  have qa:∀ (x:Str) (H1:Hp) (p:Addr),Same H H1->H1 p=none->Wd x->Q (.ref p) (upd H1 p (.tup [.str "name",.str x])):=fun x H1 p hs hp hx =>
    q _ (.name x) _ (hs.trans (same_new hp _)) (termAt_name.mpr ⟨p,rfl,upd_same⟩) (by simp only [Tm.Ok];exact hx) rfl trivial
  have qb:∀ (x:Str) (p:Addr),H p=none->Wd x->FirstX x->Q (.ref p) (upd H p (.tup [.str "blank",.str x])):=fun x p hp hx fx =>
    q _ (.blank x) _ (same_new hp _) (termAt_blank.mpr ⟨p,rfl,upd_same⟩) (by simp only [Tm.Ok];exact hx) rfl fx
  obtain ⟨w1,w2,_,_,_,_,w3,w4,w5⟩:=Wd.lits
  apply let_ts;intro T1
  apply let_ts;intro T2
  apply let_ts;intro T3
  apply let_ts;intro T4
  apply let_ts;intro T5
  apply let_ts;intro T6
  apply let_ts;intro T7
  apply let_ts;intro T8
  apply let_ts;intro T9
  apply let_ts;intro T10
  apply let_ts;intro T11
  apply let_ts;intro T12
  refine ⟨_,(pss_cons (ps_set (i:=1) sc_law_leaf.nd rfl (Or.inl rfl) (pe_op op_mod (pv 0) pe_int)) (pss_as T12 (pss_cons (ps_set (i:=2) sc_law_leaf.nd rfl (Or.inl rfl) (pe_cmpR op_eq (pe_op op_mod (pe_op op_fdiv (pv 0) pe_int) pe_int) pe_int (nomark _))) (pss_as T11 (pss_cons (ps_if (pt_cmpR op_eq (pv 1) pe_int (nomark _)) (pss_as T3 (pss_cons (ps_if (pt_val (pv 2)) (pss_as T1 (pss_one (ps_ret (pe_tup (pa_cons pe_str (pa_cons (pe_op op_sub (pe_op op_mod (pv 0) (pe_op op_pow pe_int pe_int)) (pe_op op_pow pe_int pe_int)) pa_nil)))))) pss_nil) (pss_as T2 (pss_one (ps_ret (pe_tup (pa_cons pe_str (pa_cons (pe_op op_sub (pe_op op_mod (pe_op op_fdiv (pv 0) pe_int) pe_int) pe_int) pa_nil)))))))) pss_nil) (pss_as T10 (pss_cons (ps_if (pt_cmpR op_eq (pv 1) pe_int (nomark _)) (pss_as T6 (pss_cons (ps_if (pt_val (pv 2)) (pss_as T4 (pss_one (ps_ret (pe_tup (pa_cons pe_str (pa_cons (pe_cal c__law_any_word (hr.mono (by decide)) (pa_cons (pe_op op_fdiv (pv 0) pe_int) pa_nil)) pa_nil)))))) pss_nil) (pss_as T5 (pss_one (ps_ret (pe_tup (pa_cons pe_str (pa_cons (pe_ix ix_list (pe_lst (pa_cons pe_str (pa_cons pe_str pa_nil))) (pe_op op_mod (pe_op op_fdiv (pv 0) pe_int) pe_int) (fun _ _=>rfl)) pa_nil)))))))) pss_nil) (pss_as T9 (pss_cons (ps_if (pt_val (pv 2)) (pss_as T7 (pss_one (ps_ret (pe_tup (pa_cons pe_str (pa_cons (pe_op op_add_str pe_str (pe_cal c__law_any_word (hr.mono (by decide)) (pa_cons (pe_op op_fdiv (pv 0) pe_int) pa_nil))) pa_nil)))))) pss_nil) (pss_as T8 (pss_one (ps_ret (pe_tup (pa_cons pe_str (pa_cons (pe_ix ix_str pe_str (pe_op op_mod (pe_op op_fdiv (pv 0) pe_int) pe_int) (fun _ _=>rfl)) pa_nil))))))))))))))),?_⟩
  refine ⟨_,rfl,_,_,rfl,rfl,(show (0:Int)<_ by decide),?_⟩
  refine ⟨_,rfl,_,_,rfl,rfl,⟨by decide,by decide⟩,_,_,rfl,rfl,(show (0:Int)<_ by decide),rfl,?_⟩
  refine ⟨_,rfl,rfl,_,rfl,ite2 (fun c1=>?_) (fun c1=>?_)⟩
  · refine ⟨_,rfl,_,rfl,ite2 (fun c2=>?_) (fun c2=>?_)⟩
    · refine ⟨_,rfl,_,_,rfl,rfl,⟨by decide,by decide,by decide⟩,_,_,rfl,rfl,(show (0:Int)<_ by decide +kernel),_,_,rfl,rfl,⟨by decide,by decide,by decide⟩,_,_,rfl,rfl,(by show 2<=sizeLine;decide),fun p hp=>?_⟩
      have g1:0<=i % (10 ^ (60:Int).toNat):=Int.emod_nonneg _ (by decide +kernel)
      have g2:i % (10 ^ (60:Int).toNat)<10 ^ (60:Int).toNat:=Int.emod_lt_of_pos _ (by decide +kernel)
      have g3:(10:Int) ^ (60:Int).toNat<=10 ^ 61:=by decide +kernel
      have g4:(10:Int) ^ (20:Int).toNat<=10 ^ 61:=by decide +kernel
      have g5:(0:Int)<=10 ^ (20:Int).toNat:=by decide +kernel
      exact qn _ p hp (by omega) (by omega)
    · refine ⟨_,rfl,_,_,rfl,rfl,⟨by decide,by decide⟩,_,_,rfl,rfl,(show (0:Int)<_ by decide),_,_,rfl,rfl,(by show 2<=sizeLine;decide),fun p hp=>?_⟩
      have g3:(3:Int)<=10 ^ 61:=by decide +kernel
      exact qn _ p hp (by omega) (by omega)
  refine ⟨_,rfl,rfl,_,rfl,ite2 (fun c2=>?_) (fun c2=>?_)⟩
  · refine ⟨_,rfl,_,rfl,ite2 (fun c3=>?_) (fun c3=>?_)⟩
    · refine ⟨_,rfl,_,_,rfl,rfl,⟨by decide,by decide⟩,_,rfl,fun x _ hx _=>⟨(by show 2<=sizeLine;decide),fun p hp=>?_⟩⟩
      exact qa x H p (Same.refl _) hp hx
    · refine ⟨(by show 2<=sizeLine;decide),fun p hp=>⟨_,rfl,_,_,rfl,rfl,⟨by decide,by decide⟩,_,_,rfl,rfl,(show (0:Int)<_ by decide),?_⟩⟩
      have hz:i / 4 % 2=0\/i / 4 % 2=1:=by omega
      rcases hz with z | z
      · refine ⟨p,_,_,.str "oak",rfl,rfl,SqL.of upd_same,by rw [z];rfl,(by show 2<=sizeLine;decide),fun r hr'=>?_⟩
        exact qa _ _ r (same_new hp _) hr' w1
      · refine ⟨p,_,_,.str "oik",rfl,rfl,SqL.of upd_same,by rw [z];rfl,(by show 2<=sizeLine;decide),fun r hr'=>?_⟩
        exact qa _ _ r (same_new hp _) hr' w2
  refine ⟨_,rfl,_,rfl,ite2 (fun c3=>?_) (fun c3=>?_)⟩
  · refine ⟨_,rfl,_,_,rfl,rfl,⟨by decide,by decide⟩,_,rfl,fun x _ hx hl=>⟨_,_,rfl,rfl,?_,(by show 2<=sizeLine;decide),fun p hp=>?_⟩⟩
    · have e:(Str.ofString "zz").length=2:=by decide +kernel
      rw [e,len_cps]
      exact small (by omega)
    · exact qb _ p hp (hx.zz hl) (firstX_zz x hl)
  · have hz:i / 4 % 3=0\/i / 4 % 3=1\/i / 4 % 3=2:=by omega
    refine ⟨_,rfl,_,_,rfl,rfl,⟨by decide,by decide⟩,_,_,rfl,rfl,(show (0:Int)<_ by decide),?_⟩
    rcases hz with z | z | z
    · refine ⟨_,_,120,rfl,rfl,(by decide +kernel),by rw [z];decide +kernel,(by show 2<=sizeLine;decide),fun p hp=>?_⟩
      have e:(⟨#[120]⟩:Str)="x":=by decide +kernel
      exact qb _ p hp (by rw [e];exact w3) (by rw [e];exact firstX_lits.1)
    · refine ⟨_,_,121,rfl,rfl,(by decide +kernel),by rw [z];decide +kernel,(by show 2<=sizeLine;decide),fun p hp=>?_⟩
      have e:(⟨#[121]⟩:Str)="y":=by decide +kernel
      exact qb _ p hp (by rw [e];exact w4) (by rw [e];exact firstX_lits.2.1)
    · refine ⟨_,_,122,rfl,rfl,(by decide +kernel),by rw [z];decide +kernel,(by show 2<=sizeLine;decide),fun p hp=>?_⟩
      have e:(⟨#[122]⟩:Str)="z":=by decide +kernel
      exact qb _ p hp (by rw [e];exact w5) (by rw [e];exact firstX_lits.2.2)
def spHead:Sp:=fun vs H Q _=>∃ i:Int,vs=[.int i]/\∀ (x:Str) (H':Hp),Same H H'->Wd x->HW i x->Q (.str x) H'
theorem ok_head {f:Addr}{fd:FuncData}(F:Fun K "_law_head" "_law_head" s_law_head f fd) (T:Bi mg) (c__law_any_word:Cal P w K mg base 1 "_law_any_word" ["_law_cell"] spWord) :
    FnOk P w K mg base CX0 2 f fd ["_law_cell"] spHead:=by
  refine F.ok sc_law_head (fun vs H Q E h=>?_) (fun cdv A outer s H vs Q E hr h=>?_)
  · obtain ⟨i,rfl,_⟩:=h
    rfl
  obtain ⟨i,rfl,q⟩:=h
  obtain ⟨_,_,w1,w2,_,_,_,_,_⟩:=Wd.lits
  apply let_ts;intro T1
  refine ⟨_,(pss_cons (ps_if (pt_cmpR op_eq (pe_op op_mod (pv 0) pe_int) pe_int (nomark _)) (pss_one (ps_ret (pe_cal c__law_any_word (hr.mono (by decide)) (pa_cons (pe_op op_fdiv (pv 0) pe_int) pa_nil)))) pss_nil) (pss_as T1 (pss_one (ps_ret (pe_ix ix_list (pe_lst (pa_cons pe_str (pa_cons pe_str pa_nil))) (pe_op op_mod (pv 0) pe_int) (fun _ _=>rfl)))))),?_⟩
  refine ⟨_,rfl,_,_,rfl,rfl,(show (0:Int)<_ by decide),rfl,_,rfl,ite2 (fun c1=>?_) (fun c1=>?_)⟩
  · exact ⟨_,rfl,_,_,rfl,rfl,⟨by decide,by decide⟩,_,rfl,fun x hr' hx _=>q x H (Same.refl _) hx (by
      have c1':i % 7=5:=V.int.inj (of_decide_eq_true c1)
      unfold HW;rw [if_pos c1'];exact hr')⟩
  · refine ⟨(by show 2<=sizeLine;decide),fun p hp=>⟨_,rfl,_,_,rfl,rfl,(show (0:Int)<_ by decide),?_⟩⟩
    have hz:i % 2=0\/i % 2=1:=by omega
    have c1':¬ i % 7=5:=fun z=>c1 (decide_eq_true (congrArg V.int z))
    rcases hz with z | z
    · exact ⟨p,_,_,.str "f",rfl,rfl,SqL.of upd_same,by rw [z];rfl,q _ _ (same_new hp _) w1 (by unfold HW;rw [if_neg c1',if_pos z])⟩
    · exact ⟨p,_,_,.str "pair",rfl,rfl,SqL.of upd_same,by rw [z];rfl,q _ _ (same_new hp _) w2 (by unfold HW;rw [if_neg c1',if_neg (by omega)])⟩
def spMany:Sp:=fun vs H Q _=>∃ i n:Int,vs=[.int i,.int n]/\∀ (k:Int) (H':Hp),Same H H'->(0<=k/\k<=3)\/k=n->Q (.int k) H'
theorem ok_many {f:Addr}{fd:FuncData}(F:Fun K "_law_many_parts" "_law_many_parts" s_law_many_parts f fd) (T:Bi mg) :
    FnOk P w K mg base CX0 1 f fd ["_law_cell","_law_count"] spMany:=by
  refine F.ok sc_law_many_parts (fun vs H Q E h=>?_) (fun cdv A outer s H vs Q E hr h=>?_)
  · obtain ⟨i,n,rfl,_⟩:=h
    rfl
  obtain ⟨i,n,rfl,q⟩:=h
  have last:∀ D:Ends,D.rt=Q->tRet (tOp (rIxL K) (tLst (tCons (tC (.int 0)) (tCons (tC (.int 0)) (tCons (tC (.int 1)) (tCons (tC (.int 2)) (tCons (tC (.int 2)) (tCons (tC (.int 3)) tNil))))))) (tOp (rI (fun _ j=>0<j) fun i j=>.int (i % j)) (tVar 0) (tC (.int 6)))) D [some (.int i),some (.int n)] H:=fun D hD=>by
    refine ⟨(by show 6<=sizeLine;decide),fun p hp=>⟨_,rfl,_,_,rfl,rfl,(show (0:Int)<_ by decide),?_⟩⟩
    rw [hD]
    have hz:i % 6=0\/i % 6=1\/i % 6=2\/i % 6=3\/i % 6=4\/i % 6=5:=by omega
    rcases hz with z | z | z | z | z | z
    · exact ⟨p,_,_,.int 0,rfl,rfl,SqL.of upd_same,by rw [z];rfl,q _ _ (same_new hp _) (.inl ⟨by decide,by decide⟩)⟩
    · exact ⟨p,_,_,.int 0,rfl,rfl,SqL.of upd_same,by rw [z];rfl,q _ _ (same_new hp _) (.inl ⟨by decide,by decide⟩)⟩
    · exact ⟨p,_,_,.int 1,rfl,rfl,SqL.of upd_same,by rw [z];rfl,q _ _ (same_new hp _) (.inl ⟨by decide,by decide⟩)⟩
    · exact ⟨p,_,_,.int 2,rfl,rfl,SqL.of upd_same,by rw [z];rfl,q _ _ (same_new hp _) (.inl ⟨by decide,by decide⟩)⟩
    · exact ⟨p,_,_,.int 2,rfl,rfl,SqL.of upd_same,by rw [z];rfl,q _ _ (same_new hp _) (.inl ⟨by decide,by decide⟩)⟩
    · exact ⟨p,_,_,.int 3,rfl,rfl,SqL.of upd_same,by rw [z];rfl,q _ _ (same_new hp _) (.inl ⟨by decide,by decide⟩)⟩
  apply let_ts;intro T1
  refine ⟨_,(pss_cons (ps_if (pw_and (pt_cmpR op_eq (pe_op op_mod (pv 0) pe_int) pe_int (nomark _)) (pw_and1 (pt_cmpR op_eq (pe_op op_mod (pe_op op_fdiv (pv 0) pe_int) pe_int) pe_int (nomark _)))).pt (pss_one (ps_ret (pv 1))) pss_nil) (pss_as T1 (pss_one (ps_ret (pe_ix ix_list (pe_lst (pa_cons pe_int (pa_cons pe_int (pa_cons pe_int (pa_cons pe_int (pa_cons pe_int (pa_cons pe_int pa_nil))))))) (pe_op op_mod (pv 0) pe_int) (fun _ _=>rfl)))))),?_⟩
  refine ⟨_,rfl,_,_,rfl,rfl,(show (0:Int)<_ by decide),rfl,_,rfl,ite2 (fun c1=>?_) (fun c1=>?_)⟩
  · refine ⟨_,rfl,_,_,rfl,rfl,⟨by decide,by decide⟩,_,_,rfl,rfl,(show (0:Int)<_ by decide),rfl,_,rfl,ite2 (fun c2=>?_) (fun c2=>?_)⟩
    · exact ⟨_,rfl,q _ _ (Same.refl _) (.inr rfl)⟩
    · exact last _ rfl
  · exact iteF (last _ rfl)
theorem cut_from (vs:List V) (k:Int) (h0:0<=k) (h:k<=vs.length):cutV vs (some k) none=vs.drop k.toNat:=by
  obtain ⟨j,rfl⟩:=Int.eq_ofNat_of_zero_le h0
  unfold cutV
  rw [HT.sIx_none,HT.sIx_nat]
  have e:min j vs.length=j:=by have:(j:Int)<=vs.length:=h;omega
  rw [e]
  show (vs.drop j).take (vs.length - j)=vs.drop j
  exact List.take_of_length_le (by rw [List.length_drop];omega)
theorem cut_to (vs:List V) (k:Int) (h0:0<=k) (h:k<=vs.length):cutV vs none (some k)=vs.take k.toNat:=by
  obtain ⟨j,rfl⟩:=Int.eq_ofNat_of_zero_le h0
  unfold cutV
  rw [HT.sIx_none,HT.sIx_nat]
  have e:min j vs.length=j:=by have:(j:Int)<=vs.length:=h;omega
  rw [e]
  rfl
end
end K08
namespace BF
open PySem PySem.Spec PyProof.Rows L2
open Sem (wp)
section
variable {prog:Program}{w:World}{A:Around}{E:Value->Shared->Prop}{s:Shared}
theorem w_alive {a:Addr}{Q:Option Obj->Shared->Prop}(h:Q (s.heap.get? a) s):wpAny (model prog w) A (loadIfAlive a) Q E s:=fun Γ p hΓ=>by
  show wp _ _ (Sem.loadIfAlive a .pure) _ _ _ _
  rw [Sem.wp_loadIfAlive]
  exact (wpAny_pure h:wpAny (model prog w) A (pure (s.heap.get? a)) Q E s) Γ p hΓ
theorem t_draw {it t:Addr}{i:Nat}{items:Array Value}{x:Value}{Q:Value->Shared->Prop}(q:IsTupIter s.heap it t i) (ht:IsTup s.heap t items) (hx:items[i]?=some x)
    (k:∀ h',IsTupIter h' it t (i+1)->Heap.SameBut it s.heap h'->Q x { s with heap:=h' }):wpAny (model prog w) A (Builtin.SmallTypes.nextOf (.ref it)) Q E s:=by
  obtain ⟨oi,gi,ci,di⟩:=id q
  obtain ⟨ot,gt,_,nt,dt⟩:=ht
  unfold Builtin.SmallTypes.nextOf
  refine wpAny_bind (wpAny_callSpecial?_slot (name:=Str.ofString "__next__") q.typeIs slot_tupleiter_next (wpAny_call_entry slot_tupleiter_next q.typeIs entry_tupleiter_next ?_ (args_tupleiter_next _)))
  show wpAny _ _ (field (Value.ref it) 0 >>= _) _ _ s
  refine wpAny_bind (wpAny_field gi di (x:=Value.ref t) rfl ?_)
  show wpAny _ _ (if (Value.ref t==Value.none)=true then _ else _) _ _ (s:Shared)
  rw [if_neg (show ¬ (Value.ref t==Value.none)=true from fun z=>nomatch z)]
  show wpAny _ _ (field (Value.ref it) 1 >>= _) _ _ s
  refine wpAny_bind (wpAny_field gi di (x:=Value.int i 0) rfl ?_)
  show wpAny _ _ (seqItems? (Value.ref t) >>= _) _ _ s
  refine wpAny_bind (wpAny_seqItems gt dt ?_)
  simp only [Int.toNat_natCast,hx]
  refine wpAny_bind (wpAny_setField gi di (by simp) (wpAny_pure ⟨x,rfl,wpAny_pure (k _ ⟨_,Heap.get?_update_self _ gi (Obj.isFreed_of_fields (Obj.data_mapFields di _)),(Obj.cls_mapFields ..).trans ci,?_⟩ (Heap.SameBut.update ..))⟩))
  rw [Obj.data_mapFields di]
  simp [rawInt]
theorem t_drawn {it t:Addr}{i:Nat}{items:Array Value}{Q:Value->Shared->Prop}(hh:A.handled=none) (q:IsTupIter s.heap it t i) (ht:IsTup s.heap t items) (hx:items[i]?=none)
    (k:∀ h' e,Heap.ExtBut it s.heap h'->(∃ o,h'.get? e=some o/\o.cls=.type "StopIteration")->E (.ref e) { s with heap:=h' }):wpAny (model prog w) A (Builtin.SmallTypes.nextOf (.ref it)) Q E s:=by
  obtain ⟨oi,gi,ci,di⟩:=id q
  obtain ⟨ot,gt,_,nt,dt⟩:=ht
  unfold Builtin.SmallTypes.nextOf
  refine wpAny_bind (wpAny_callSpecial?_slot (name:=Str.ofString "__next__") q.typeIs slot_tupleiter_next (wpAny_call_entry slot_tupleiter_next q.typeIs entry_tupleiter_next ?_ (args_tupleiter_next _)))
  show wpAny _ _ (field (Value.ref it) 0 >>= _) _ _ s
  refine wpAny_bind (wpAny_field gi di (x:=Value.ref t) rfl ?_)
  show wpAny _ _ (if (Value.ref t==Value.none)=true then _ else _) _ _ (s:Shared)
  rw [if_neg (show ¬ (Value.ref t==Value.none)=true from fun z=>nomatch z)]
  show wpAny _ _ (field (Value.ref it) 1 >>= _) _ _ s
  refine wpAny_bind (wpAny_field gi di (x:=Value.int i 0) rfl ?_)
  show wpAny _ _ (seqItems? (Value.ref t) >>= _) _ _ s
  refine wpAny_bind (wpAny_seqItems gt dt ?_)
  simp only [Int.toNat_natCast,hx]
  refine wpAny_bind (wpAny_rule (wpAny_bind (wpAny_setField gi di (by simp) ?_)))
  show wpAny _ _ (newExc (Value.type "StopIteration") [] >>= _) _ _ _
  refine wpAny_bind ?_
  simp only [newExc,newTuple]
  refine wpAny_bind (wpAny_newObj_type ?_ (by size_fits))
  refine wpAny_bind (m:=firstArgMember _ _) (wpAny_of_eq (a:=Value.none) (by first | rfl | (simp only [firstArgMember];rfl)) ?_)
  refine wpAny_newObj_type ?_ (by size_fits)
  simp only [raiseNew]
  refine wpAny_bind (wpAny_handled ?_)
  first | rw [show A.in1.handled=none from hh] | rw [hh]
  exact wpAny_bind (wpAny_pure (wpAny_throw (k _ _ (((Heap.SameBut.update ..).extBut.push _).push _) ⟨_,Heap.get?_push_size _ rfl,rfl⟩)))
abbrev zObj (f0 f1:Value) (TI TO:Addr):Obj:={ cls:=.type "zip",dict:=none,data:=.fields #[f0,f1,.bool false,.ref TI,.ref TO],slots:=#[] }
def Zf (f0 f1:Value):Prop:=(f0=.none\/∃ n:Int,f0=rawInt n)/\∃ b,f1=.bool b
theorem z_free {z TI TO:Addr}{f0 f1:Value}{Q:Bool->Shared->Prop}(hz:s.heap.get? z=some (zObj f0 f1 TI TO)) (hf:Zf f0 f1) (ht:Q true s)
    (hn:∀ h' f1',h'.get? z=some (zObj f0 f1' TI TO)->Heap.SameBut z s.heap h'->Zf f0 f1'->Q false { s with heap:=h' }):wpAny (model prog w) A (Builtin.SmallTypes.ownedTupleIsFree (.ref z)) Q E s:=by
  obtain ⟨h0,b,rfl⟩:=id hf
  unfold Builtin.SmallTypes.ownedTupleIsFree
  rcases h0 with rfl | ⟨n,rfl⟩
  · exact wpAny_bind (wpAny_field hz rfl (x:=Value.none) rfl (wpAny_pure ht))
  · refine wpAny_bind (wpAny_field hz rfl (x:=rawInt n) rfl ?_)
    show wpAny _ _ (loadIfAlive n.toNat >>= _) _ _ _
    refine wpAny_bind (w_alive ?_)
    cases s.heap.get? n.toNat with
    | none=>exact wpAny_pure ht
    | some o =>
      show wpAny _ _ (field (Value.ref z) 1 >>= _) _ _ _
      refine wpAny_bind (wpAny_field hz rfl (x:=Value.bool b) rfl ?_)
      cases b with
      | true=>exact wpAny_pure (hn _ _ hz (Heap.SameBut.refl ..) hf)
      | false=>exact wpAny_bind (wpAny_setField_rec hz (by simp) fun h1 g1 s1=>wpAny_pure (hn _ _ g1 s1 ⟨hf.1,true,rfl⟩))
theorem z_item {z TI TO i1 i2 a b:Addr}{k:Nat}{xs ys:Array Value}{x y f0 f1:Value}{Q:Value->Shared->Prop}(D:ZipApart z TI TO i1 i2 a b) (hf:Zf f0 f1)
    (hz:s.heap.get? z=some (zObj f0 f1 TI TO)) (hTI:IsPair s.heap TI (.ref i1) (.ref i2)) (hTO:∃ u v,IsPair s.heap TO u v)
    (h1:IsTupIter s.heap i1 a k) (h2:IsTupIter s.heap i2 b k) (t1:IsTup s.heap a xs) (t2:IsTup s.heap b ys) (hx:xs[k]?=some x) (hy:ys[k]?=some y)
    (hQ:∀ h' f0' f1',Zf f0' f1'->h'.get? z=some (zObj f0' f1' TI TO)->(∃ u v,IsPair h' TO u v)->IsTupIter h' i1 a (k+1)->IsTupIter h' i2 b (k+1)->IsPair h' s.heap.objs.size x y->h'.objs.size=s.heap.objs.size+1 ->
      (∀ c o,c≠z->c≠TO->c≠i1->c≠i2->s.heap.get? c=some o->h'.get? c=some o)->Q (.ref s.heap.objs.size) { s with heap:=h' }) :
    wpAny (model prog w) A (Builtin.«zip.__next__» ⟨[.ref z],[]⟩) (fun fin s'=>∃ v,fin=.done (.ret v)/\Q v s') E s:=by
  obtain ⟨u,v,hTO⟩:=hTO
  show wpAny _ _ (field (Value.ref z) 2 >>= _) _ _ s
  refine wpAny_bind (wpAny_field hz rfl (x:=Value.bool false) rfl ?_)
  show wpAny _ _ (field (Value.ref z) 3 >>= _) _ _ s
  refine wpAny_bind (wpAny_field hz rfl (x:=Value.ref TI) rfl ?_)
  refine wpAny_bind (wpAny_seqItems hTI rfl ?_)
  show wpAny _ _ (Builtin.SmallTypes.ownedTupleIsFree (Value.ref z) >>= _) _ _ s
  refine wpAny_bind (z_free hz hf ?_ fun g1 f1' gz1 gs1 gf1=>?_)
  · simp only [if_true]
    refine wpAny_bind (wpAny_rule (wpAny_bind (wpAny_field hz rfl (x:=Value.ref TO) rfl ?_)))
    refine wpAny_bind (wpAny_setField_rec hz (by simp) fun g1 gz1 gs1=>?_)
    replace gz1:g1.get? z=some (zObj .ellipsis f1 TI TO):=gz1
    refine wpAny_bind ?_
    simp only [List.zipIdx_cons,List.zipIdx_nil,List.forIn_cons,List.forIn_nil]
    refine wpAny_bind (wpAny_bind (wpAny_onRaise ?_))
    show wpAny _ _ (Builtin.SmallTypes.nextOf (Value.ref i1) >>= _) _ _ _
    refine wpAny_bind (t_draw (h1.extBut gs1.extBut D.i1z) (t1.extBut gs1.extBut D.l1z) hx fun g2 e2 gs2=>wpAny_pure ?_)
    have o2:IsPair g2 TO u v:=gs2.extBut _ _ D.TOi1 (gs1.extBut _ _ D.TOz hTO)
    refine wpAny_bind (wpAny_seqItems o2 rfl (wpAny_bind (wpAny_updateSeq_pair o2 fun g3 o3 gs3=>?_)))
    replace o3:IsPair g3 TO x v:=o3
    refine wpAny_bind (wpAny_letGo (wpAny_pure (wpAny_bind (wpAny_bind (wpAny_onRaise ?_)))))
    show wpAny _ _ (Builtin.SmallTypes.nextOf (Value.ref i2) >>= _) _ _ _
    refine wpAny_bind (t_draw (((h2.extBut gs1.extBut D.i2z).extBut gs2.extBut D.i12.symm).extBut gs3.extBut D.TOi2.symm) (((t2.extBut gs1.extBut D.l2z).extBut gs2.extBut D.l2i1).extBut gs3.extBut D.l2TO) hy fun g4 e4 gs4=>wpAny_pure ?_)
    have o4:IsPair g4 TO x v:=gs4.extBut _ _ D.TOi2 o3
    refine wpAny_bind (wpAny_seqItems o4 rfl (wpAny_bind (wpAny_updateSeq_pair o4 fun g5 o5 gs5=>?_)))
    replace o5:IsPair g5 TO x y:=o5
    refine wpAny_bind (wpAny_letGo (wpAny_pure (wpAny_pure (wpAny_bind (wpAny_seqItems o5 rfl (wpAny_bind (wpAny_newTuple ?_)))))))
    have hsz:g5.objs.size=s.heap.objs.size:=by rw [gs5.1,gs4.1,gs3.1,gs2.1,gs1.1]
    have gz5:g5.get? z=some (zObj .ellipsis f1 TI TO):=gs5.extBut _ _ D.TOz.symm (gs4.extBut _ _ D.i2z.symm (gs3.extBut _ _ D.TOz.symm (gs2.extBut _ _ D.i1z.symm gz1)))
    have hk:∀ c o,c≠z->c≠TO->c≠i1->c≠i2->s.heap.get? c=some o->g5.get? c=some o:=fun c o c1 c2 c3 c4 e =>
      gs5.extBut _ _ c2 (gs4.extBut _ _ c4 (gs3.extBut _ _ c2 (gs2.extBut _ _ c3 (gs1.extBut _ _ c1 e))))
    have w1:IsTupIter g5 i1 a (k+1):=((e2.extBut gs3.extBut D.TOi1.symm).extBut gs4.extBut D.i12).extBut gs5.extBut D.TOi1.symm
    have w2:IsTupIter g5 i2 b (k+1):=e4.extBut gs5.extBut D.TOi2.symm
    have zlt:z<g5.objs.size:=Heap.lt_size gz5
    show wpAny _ _ (Builtin.SmallTypes.ownedTupleHandOut (Value.ref z) (Value.ref g5.objs.size) >>= _) _ _ _
    refine wpAny_bind ?_
    unfold Builtin.SmallTypes.ownedTupleHandOut
    have gz6:(g5.push { cls:=.type "tuple",data:=.seq #[x,y] }).get? z=some (zObj .ellipsis f1 TI TO):=Heap.get?_push_of_some _ gz5
    refine wpAny_bind (wpAny_setField_rec gz6 (by simp) fun g7 gz7 gs7=>?_)
    replace gz7:g7.get? z=some (zObj (rawInt g5.objs.size) f1 TI TO):=gz7
    refine wpAny_setField_rec gz7 (by simp) fun g8 gz8 gs8=>?_
    replace gz8:g8.get? z=some (zObj (rawInt g5.objs.size) (.bool false) TI TO):=gz8
    have up:∀ c o,c≠z->g5.get? c=some o->g8.get? c=some o:=fun c o c1 e=>gs8.extBut _ _ c1 (gs7.extBut _ _ c1 (Heap.get?_push_of_some _ e))
    have hT:IsPair g8 g5.objs.size x y:=gs8.extBut _ _ (Nat.ne_of_gt zlt) (gs7.extBut _ _ (Nat.ne_of_gt zlt) (Heap.get?_push_size _ rfl))
    have hz8:g8.objs.size=g5.objs.size+1:=by rw [gs8.1,gs7.1,Heap.size_push]
    rw [hsz] at hT hz8
    refine wpAny_pure ⟨_,rfl,?_⟩
    show Q (.ref g5.objs.size) _
    rw [hsz]
    refine hQ g8 _ _ ⟨.inr ⟨_,rfl⟩,false,rfl⟩ gz8 ⟨x,y,up _ _ D.TOz o5⟩ ?_ ?_ hT hz8 fun c o c1 c2 c3 c4 e=>up c o c1 (hk c o c1 c2 c3 c4 e)
    · obtain ⟨o,ho,r⟩:=w1
      exact ⟨o,up _ _ D.i1z ho,r⟩
    · obtain ⟨o,ho,r⟩:=w2
      exact ⟨o,up _ _ D.i2z ho,r⟩
  · simp only [Bool.false_eq_true,if_false]
    refine wpAny_bind ?_
    simp only [<- Array.forIn_toList,List.forIn_cons,List.forIn_nil]
    refine wpAny_bind (wpAny_bind (wpAny_holding ?_))
    show wpAny _ _ (Builtin.SmallTypes.nextOf (Value.ref i1) >>= _) _ _ _
    refine wpAny_bind (t_draw (h1.extBut gs1.extBut D.i1z) (t1.extBut gs1.extBut D.l1z) hx fun g2 e2 gs2=>wpAny_pure (wpAny_pure ?_))
    refine wpAny_bind (wpAny_bind (wpAny_holding ?_))
    show wpAny _ _ (Builtin.SmallTypes.nextOf (Value.ref i2) >>= _) _ _ _
    refine wpAny_bind (t_draw ((h2.extBut gs1.extBut D.i2z).extBut gs2.extBut D.i12.symm) ((t2.extBut gs1.extBut D.l2z).extBut gs2.extBut D.l2i1) hy fun g4 e4 gs4=>wpAny_pure (wpAny_pure (wpAny_pure ?_)))
    refine wpAny_bind (wpAny_newTuple (wpAny_pure ⟨_,rfl,?_⟩) (by show 2<=sizeLine;decide))
    have hsz:g4.objs.size=s.heap.objs.size:=by rw [gs4.1,gs2.1,gs1.1]
    have w1:=e2.extBut gs4.extBut D.i12
    show Q (.ref g4.objs.size) _
    rw [hsz]
    refine hQ _ _ _ gf1 (Heap.get?_push_of_some _ (gs4.extBut _ _ D.i2z.symm (gs2.extBut _ _ D.i1z.symm gz1))) ⟨u,v,Heap.get?_push_of_some _ (gs4.extBut _ _ D.TOi2 (gs2.extBut _ _ D.TOi1 (gs1.extBut _ _ D.TOz hTO)))⟩ ?_ ?_ ?_ (by rw [Heap.size_push,hsz]) fun c o c1 c2 c3 c4 e=>Heap.get?_push_of_some _ (gs4.extBut _ _ c4 (gs2.extBut _ _ c3 (gs1.extBut _ _ c1 e)))
    · obtain ⟨o,ho,r⟩:=w1
      exact ⟨o,Heap.get?_push_of_some _ ho,r⟩
    · obtain ⟨o,ho,r⟩:=e4
      exact ⟨o,Heap.get?_push_of_some _ ho,r⟩
    · rw [<- hsz]
      exact Heap.get?_push_size _ rfl
theorem z_end {z TI TO i1 i2 a b:Addr}{k:Nat}{xs:Array Value}{f0 f1:Value}{Q:Fin->Shared->Prop}(hh:A.handled=none) (D:ZipApart z TI TO i1 i2 a b) (hf:Zf f0 f1)
    (hz:s.heap.get? z=some (zObj f0 f1 TI TO)) (hTI:IsPair s.heap TI (.ref i1) (.ref i2))
    (h1:IsTupIter s.heap i1 a k) (t1:IsTup s.heap a xs) (hx:xs[k]?=none)
    (hE:∀ h' e,(∀ c o,c≠z->c≠i1->s.heap.get? c=some o->h'.get? c=some o)->(∃ o,h'.get? e=some o/\o.cls=.type "StopIteration")->E (.ref e) { s with heap:=h' }) :
    wpAny (model prog w) A (Builtin.«zip.__next__» ⟨[.ref z],[]⟩) Q E s:=by
  show wpAny _ _ (field (Value.ref z) 2 >>= _) _ _ s
  refine wpAny_bind (wpAny_field hz rfl (x:=Value.bool false) rfl ?_)
  show wpAny _ _ (field (Value.ref z) 3 >>= _) _ _ s
  refine wpAny_bind (wpAny_field hz rfl (x:=Value.ref TI) rfl ?_)
  refine wpAny_bind (wpAny_seqItems hTI rfl ?_)
  show wpAny _ _ (Builtin.SmallTypes.ownedTupleIsFree (Value.ref z) >>= _) _ _ s
  refine wpAny_bind (z_free hz hf ?_ fun g1 f1' gz1 gs1 gf1=>?_)
  · simp only [if_true]
    refine wpAny_bind (wpAny_rule (wpAny_bind (wpAny_field hz rfl (x:=Value.ref TO) rfl ?_)))
    refine wpAny_bind (wpAny_setField_rec hz (by simp) fun g1 gz1 gs1=>?_)
    replace gz1:g1.get? z=some (zObj .ellipsis f1 TI TO):=gz1
    refine wpAny_bind ?_
    simp only [List.zipIdx_cons,List.zipIdx_nil,List.forIn_cons,List.forIn_nil]
    refine wpAny_bind (wpAny_bind (wpAny_onRaise ?_))
    show wpAny _ _ (Builtin.SmallTypes.nextOf (Value.ref i1) >>= _) _ _ _
    refine wpAny_bind (t_drawn hh (h1.extBut gs1.extBut D.i1z) (t1.extBut gs1.extBut D.l1z) hx fun g2 e gs2 he=>?_)
    obtain ⟨oe,hoe,hce⟩:=he
    have gz2:g2.get? z=some (zObj .ellipsis f1 TI TO):=gs2 _ _ D.i1z.symm gz1
    have hez:e≠z:=fun y=>by subst y;rw [gz2] at hoe;cases hoe;simp at hce
    exact wpAny_setField_rec gz2 (by simp) fun g3 _ gs3=>hE g3 e (fun c o c1 c3 y=>gs3.extBut _ _ c1 (gs2 _ _ c3 (gs1.extBut _ _ c1 y))) ⟨oe,gs3.extBut _ _ hez hoe,hce⟩
  · simp only [Bool.false_eq_true,if_false]
    refine wpAny_bind ?_
    simp only [<- Array.forIn_toList,List.forIn_cons,List.forIn_nil]
    refine wpAny_bind (wpAny_bind (wpAny_holding ?_))
    show wpAny _ _ (Builtin.SmallTypes.nextOf (Value.ref i1) >>= _) _ _ _
    exact wpAny_bind (t_drawn hh (h1.extBut gs1.extBut D.i1z) (t1.extBut gs1.extBut D.l1z) hx fun g2 e gs2 he=>hE g2 e (fun c o c1 c3 y=>gs2 _ _ c3 (gs1.extBut _ _ c1 y)) he)
end
end BF
namespace BF
open PySem PySem.Spec PyProof.Rows L2
open Sem (wp)
structure ZAt (h:Heap) (z TI TO i1 i2 a b:Addr) (k:Nat):Prop where
  z:∃ f0 f1,Zf f0 f1/\h.get? z=some (zObj f0 f1 TI TO)
  ti:IsPair h TI (.ref i1) (.ref i2)
  to:∃ u v,IsPair h TO u v
  i1:IsTupIter h i1 a k
  i2:IsTupIter h i2 b k
theorem ZAt.keep {h h':Heap}{z TI TO i1 i2 a b:Addr}{k:Nat}(x:ZAt h z TI TO i1 i2 a b k) (q:∀ c∈[z,TI,TO,i1,i2],∀ o,h.get? c=some o->h'.get? c=some o):ZAt h' z TI TO i1 i2 a b k where
  z:=let ⟨f0,f1,hf,e⟩:=x.z;⟨f0,f1,hf,q z (by simp) _ e⟩
  ti:=q TI (by simp) _ x.ti
  to:=let ⟨u,v,e⟩:=x.to;⟨u,v,q TO (by simp) _ e⟩
  i1:=let ⟨o,e,r⟩:=x.i1;⟨o,q i1 (by simp) _ e,r⟩
  i2:=let ⟨o,e,r⟩:=x.i2;⟨o,q i2 (by simp) _ e,r⟩
section
variable {prog:Program}{w:World}{A:Around}{E:Value->Shared->Prop}{s:Shared}{z TI TO i1 i2 a b:Addr}{k:Nat}{xs ys:Array Value}{x y:Value}
abbrev ZNext (s:Shared) (z TI TO i1 i2 a b:Addr) (k:Nat) (x y:Value) (h':Heap):Prop :=
  ZAt h' z TI TO i1 i2 a b (k+1)/\IsPair h' s.heap.objs.size x y/\h'.objs.size=s.heap.objs.size+1/\∀ c o,c≠z->c≠TO->c≠i1->c≠i2->s.heap.get? c=some o->h'.get? c=some o
theorem z_next {Q:Value->Shared->Prop}(D:ZipApart z TI TO i1 i2 a b) (hz:ZAt s.heap z TI TO i1 i2 a b k) (t1:IsTup s.heap a xs) (t2:IsTup s.heap b ys) (hx:xs[k]?=some x) (hy:ys[k]?=some y)
    (hQ:∀ h',ZNext s z TI TO i1 i2 a b k x y h'->Q (.ref s.heap.objs.size) { s with heap:=h' }):wpAny (model prog w) A (Builtin.«zip.__next__» ⟨[.ref z],[]⟩) (fun fin s'=>∃ v,fin=.done (.ret v)/\Q v s') E s:=by
  obtain ⟨f0,f1,hf,e⟩:=hz.z
  exact z_item D hf e hz.ti hz.to hz.i1 hz.i2 t1 t2 hx hy fun h' g0 g1 q1 q2 q3 q4 q5 q6 q7 q8=>hQ h' ⟨⟨⟨g0,g1,q1,q2⟩,q8 _ _ D.TIz D.TITO D.TIi1 D.TIi2 hz.ti,q3,q4,q5⟩,q6,q7,q8⟩
theorem z_draw {Q:Value->Shared->Prop}(D:ZipApart z TI TO i1 i2 a b) (hz:ZAt s.heap z TI TO i1 i2 a b k) (t1:IsTup s.heap a xs) (t2:IsTup s.heap b ys) (hx:xs[k]?=some x) (hy:ys[k]?=some y)
    (hQ:∀ h',ZNext s z TI TO i1 i2 a b k x y h'->Q (.ref s.heap.objs.size) { s with heap:=h' }):wpAny (model prog w) A (Builtin.SmallTypes.nextOf (.ref z)) Q E s:=by
  have hT:s.TypeIs (.ref z) "zip":=let ⟨_,_,_,e⟩:=hz.z;⟨_,e,rfl⟩
  unfold Builtin.SmallTypes.nextOf
  exact wpAny_bind (wpAny_callSpecial?_slot (name:=Str.ofString "__next__") hT F.slot_zip_next (wpAny_call_entry F.slot_zip_next hT F.entry_zip_next (z_next D hz t1 t2 hx hy fun h' q=>wpAny_pure (hQ h' q)) (F.args_zip_next_1 _)))
theorem z_pn {Q:Option Value->Shared->Prop}(D:ZipApart z TI TO i1 i2 a b) (hz:ZAt s.heap z TI TO i1 i2 a b k) (t1:IsTup s.heap a xs) (t2:IsTup s.heap b ys) (hx:xs[k]?=some x) (hy:ys[k]?=some y)
    (hQ:∀ h',ZNext s z TI TO i1 i2 a b k x y h'->Q (some (.ref s.heap.objs.size)) { s with heap:=h' }):wpAny (model prog w) A (pyNext (.ref z)) Q E s:=by
  have hT:s.TypeIs (.ref z) "zip":=let ⟨_,_,_,e⟩:=hz.z;⟨_,e,rfl⟩
  unfold pyNext
  exact wpAny_bind (wpAny_attempt (wpAny_callSpecial?_slot (name:=Str.ofString "__next__") hT F.slot_zip_next (wpAny_call_entry F.slot_zip_next hT F.entry_zip_next (z_next D hz t1 t2 hx hy fun h' q=>wpAny_pure (hQ h' q)) (F.args_zip_next_1 _))))
theorem z_drawn {Q:Value->Shared->Prop}(hh:A.handled=none) (D:ZipApart z TI TO i1 i2 a b) (hz:ZAt s.heap z TI TO i1 i2 a b k) (t1:IsTup s.heap a xs) (hx:xs[k]?=none)
    (hE:∀ h' e,(∀ c o,c≠z->c≠i1->s.heap.get? c=some o->h'.get? c=some o)->(∃ o,h'.get? e=some o/\o.cls=.type "StopIteration")->E (.ref e) { s with heap:=h' }):wpAny (model prog w) A (Builtin.SmallTypes.nextOf (.ref z)) Q E s:=by
  have hT:s.TypeIs (.ref z) "zip":=let ⟨_,_,_,e⟩:=hz.z;⟨_,e,rfl⟩
  obtain ⟨f0,f1,hf,e⟩:=hz.z
  unfold Builtin.SmallTypes.nextOf
  exact wpAny_bind (wpAny_callSpecial?_slot (name:=Str.ofString "__next__") hT F.slot_zip_next (wpAny_call_entry F.slot_zip_next hT F.entry_zip_next (z_end hh D hf e hz.ti hz.i1 t1 hx hE) (F.args_zip_next_1 _)))
theorem z_pnone {Q:Option Value->Shared->Prop}(hh:A.handled=none) (D:ZipApart z TI TO i1 i2 a b) (hz:ZAt s.heap z TI TO i1 i2 a b k) (t1:IsTup s.heap a xs) (hx:xs[k]?=none)
    (hQ:∀ h',(∀ c o,c≠z->c≠i1->s.heap.get? c=some o->h'.get? c=some o)->Q none { s with heap:=h' }):wpAny (model prog w) A (pyNext (.ref z)) Q E s:=by
  have hT:s.TypeIs (.ref z) "zip":=let ⟨_,_,_,e⟩:=hz.z;⟨_,e,rfl⟩
  obtain ⟨f0,f1,hf,e⟩:=hz.z
  unfold pyNext
  refine wpAny_bind (wpAny_attempt (wpAny_callSpecial?_slot (name:=Str.ofString "__next__") hT F.slot_zip_next (wpAny_call_entry F.slot_zip_next hT F.entry_zip_next (z_end hh D hf e hz.ti hz.i1 t1 hx fun h' e hk he=>?_) (F.args_zip_next_1 _))))
  obtain ⟨o,ho,hc⟩:=he
  exact wpAny_bind (wpAny_isInstance (T:="StopIteration") (b:=true) ⟨o,ho,hc⟩ isSubtype_stop (wpAny_pure (hQ _ hk)))
theorem z_self {Q:Value->Shared->Prop}(hz:ZAt s.heap z TI TO i1 i2 a b k) (h:Q (.ref z) s):wpAny (model prog w) A (pyIter (.ref z)) Q E s:=by
  obtain ⟨f0,f1,hf,e⟩:=hz.z
  have hT:s.TypeIs (.ref z) "zip":=⟨_,e,rfl⟩
  refine wpAny_pyIter_slot hT F.slot_zip_iter (wpAny_call_entry F.slot_zip_iter hT F.entry_zip_iter ?_ (F.args_zip_iter_1 _))
  show wpAny _ _ (ret (Value.ref z)) _ _ s
  exact wpAny_pure ⟨_,rfl,"zip",_,hT,F.slot_zip_next.lookup,h⟩
end
abbrev zt1 (h:Heap) (l1:Addr):Heap:=h.push { cls:=.type "tuple_iterator",data:=.fields #[.ref l1,.int 0 0] }
abbrev zt2 (h:Heap) (l1 l2:Addr):Heap:=(zt1 h l1).push { cls:=.type "tuple_iterator",data:=.fields #[.ref l2,.int 0 0] }
abbrev zt3 (h:Heap) (l1 l2:Addr):Heap:=(zt2 h l1 l2).push { cls:=.type "tuple",data:=.seq #[.ref h.objs.size,.ref (zt1 h l1).objs.size] }
abbrev zt4 (h:Heap) (l1 l2:Addr):Heap:=(zt3 h l1 l2).push { cls:=.type "tuple",data:=.seq #[.none,.none] }
abbrev zt5 (h:Heap) (l1 l2:Addr):Heap:=(zt4 h l1 l2).push (zObj .none (.bool false) (zt2 h l1 l2).objs.size (zt3 h l1 l2).objs.size)
theorem meets_zt (l1 l2:Addr) (xs ys:Array Value) :
    Meets (Builtin.«zip.__new__» ⟨[.type "zip",.ref l1,.ref l2],[]⟩) (fun _ R s=>IsTup s.heap l1 xs/\IsTup s.heap l2 ys/\R (.ok (.ret (.ref (zt4 s.heap l1 l2).objs.size))) { s with heap:=zt5 s.heap l1 l2 }) :=
  .of_wp fun prog w A R s h=>by
    obtain ⟨hp,g,d,tk,os⟩:=s;obtain ⟨hl1,hl2,h⟩:=h
    have hsub:=sub_zip
    have hL1:IsTup (Shared.heap ⟨hp,g,d,tk,os⟩) l1 xs:=hl1
    have hL2:IsTup (Shared.heap ⟨hp.push { cls:=.type "tuple_iterator",data:=.fields #[.ref l1,.int 0 0] },g,d,tk,os⟩) l2 ys:=let ⟨o,e,r⟩:=hl2;⟨o,Heap.get?_push_of_some _ e,r⟩
    wp_walk using iter_tuple hL1,iter_tuple hL2
    exact ⟨_,rfl,h⟩
theorem zt_all (h:Heap) (l1 l2:Addr):(zt5 h l1 l2).objs.size=h.objs.size+5/\(zt4 h l1 l2).objs.size=h.objs.size+4/\ZAt (zt5 h l1 l2) (h.objs.size+4) (h.objs.size+2) (h.objs.size+3) h.objs.size (h.objs.size+1) l1 l2 0 /\
    (∀ c o,h.get? c=some o->(zt5 h l1 l2).get? c=some o):=by
  have z1:(zt1 h l1).objs.size=h.objs.size+1:=Heap.size_push ..
  have z2:(zt2 h l1 l2).objs.size=h.objs.size+2:=by rw [Heap.size_push,z1]
  have z3:(zt3 h l1 l2).objs.size=h.objs.size+3:=by rw [Heap.size_push,z2]
  have z4:(zt4 h l1 l2).objs.size=h.objs.size+4:=by rw [Heap.size_push,z3]
  have z5:(zt5 h l1 l2).objs.size=h.objs.size+5:=by rw [Heap.size_push,z4]
  have g5:(zt5 h l1 l2).get? (zt4 h l1 l2).objs.size=some _:=Heap.get?_push_size _ rfl
  have g4:(zt5 h l1 l2).get? (zt3 h l1 l2).objs.size=some _:=Heap.get?_push_of_some _ (Heap.get?_push_size _ rfl)
  have g3:(zt5 h l1 l2).get? (zt2 h l1 l2).objs.size=some _:=Heap.get?_push_of_some _ (Heap.get?_push_of_some _ (Heap.get?_push_size _ rfl))
  have g2:(zt5 h l1 l2).get? (zt1 h l1).objs.size=some _:=Heap.get?_push_of_some _ (Heap.get?_push_of_some _ (Heap.get?_push_of_some _ (Heap.get?_push_size _ rfl)))
  have g1:(zt5 h l1 l2).get? h.objs.size=some _:=Heap.get?_push_of_some _ (Heap.get?_push_of_some _ (Heap.get?_push_of_some _ (Heap.get?_push_of_some _ (Heap.get?_push_size _ rfl))))
  rw [z2,z3,z4] at g5
  rw [z1,z2] at g3
  rw [z3] at g4
  rw [z1] at g2
  exact ⟨z5,z4,⟨⟨_,_,⟨.inl rfl,false,rfl⟩,g5⟩,g3,⟨_,_,g4⟩,⟨_,g1,rfl,rfl⟩,⟨_,g2,rfl,rfl⟩⟩,fun c o e=>Heap.get?_push_of_some _ (Heap.get?_push_of_some _ (Heap.get?_push_of_some _ (Heap.get?_push_of_some _ (Heap.get?_push_of_some _ e))))⟩
theorem call_zt {prog:Program}{w:World}{A:Around}{E:Value->Shared->Prop}{s:Shared}{l1 l2:Addr}{xs ys:Array Value}{Q:Value->Shared->Prop}(h1:IsTup s.heap l1 xs) (h2:IsTup s.heap l2 ys)
    (h:Q (.ref (s.heap.objs.size+4)) { s with heap:=zt5 s.heap l1 l2 }):wpAny (model prog w) A (call (.type "zip") [.ref l1,.ref l2]) Q E s:=by
  refine callType_new F.called_zip (by decide) (F.typeCall_zip_2 _ _) (F.newCall_zip_2 _ _) (fun obj=>F.args_object_init_3 obj _ _) F.entry_zip_new (meets_zt l1 l2 xs ys) ⟨h1,h2,?_⟩
  obtain ⟨z5,z4,zz,_⟩:=zt_all s.heap l1 l2
  show _/\_
  rw [z4]
  obtain ⟨_,_,_,e⟩:=zz.z
  exact ⟨⟨_,e,rfl⟩,h⟩
theorem zt_apart {n a b:Nat}(h1:a<n) (h2:b<n):ZipApart (n+4) (n+2) (n+3) n (n+1) a b:=by
  constructor <;> (show (_:Nat)≠(_:Nat);omega)
end BF
namespace BF
open PySem PySem.Spec PyProof.Rows L2
open Sem (wp)
def ZL (H:Hp) (ls xs ys:List V):Prop:=ls.length=xs.length/\∀ (i:Nat) (x y:V),xs[i]?=some x->ys[i]?=some y->∃ p,ls[i]?=some (.ref p)/\H p=some (.tup [x,y])
theorem ZL.snoc {H H':Hp}{ls xs ys:List V}{x y:V}{p:Addr}(h:ZL H ls xs ys) (hl:xs.length=ys.length) (k:∀ q us,H q=some (.tup us)->H' q=some (.tup us)) (hp:H' p=some (.tup [x,y])):ZL H' (ls++[.ref p]) (xs++[x]) (ys++[y]):=by
  refine ⟨by simp [h.1],fun i u v hu hv=>?_⟩
  by_cases c:i<xs.length
  · rw [List.getElem?_append_left c] at hu
    rw [List.getElem?_append_left (by omega)] at hv
    obtain ⟨q,e1,e2⟩:=h.2 i u v hu hv
    exact ⟨q,by rw [List.getElem?_append_left (by have:=h.1;omega)];exact e1,k _ _ e2⟩
  · have hi:i=xs.length:=by
      have:=(List.getElem?_eq_some_iff.mp hu).1
      simp at this
      omega
    subst hi
    rw [List.getElem?_append_right (Nat.le_refl _)] at hu
    rw [hl,List.getElem?_append_right (Nat.le_refl _)] at hv
    simp at hu hv
    subst hu hv
    refine ⟨p,?_,hp⟩
    rw [<- h.1,List.getElem?_append_right (Nat.le_refl _)]
    simp
section
variable {X:Cx}{pins:List (Addr×Obj)}{σ:L2.St}
theorem z_inv {s:Shared}{H:Hp}{z TI TO i1 i2 a b:Addr}{k:Nat}{x y:V}{u v:Value}{h':Heap}(I:Inv X pins σ H s) (hf:∀ c∈[z,TI,TO,i1,i2],FpOk X pins H c) (hz:ZAt s.heap z TI TO i1 i2 a b k) (ru:RelV x u) (rv:RelV y v) (q:ZNext s z TI TO i1 i2 a b k u v h') :
    Inv X pins σ (upd H s.heap.objs.size (.tup [x,y])) { s with heap:=h' }/\(∀ c∈[z,TI,TO,i1,i2],FpOk X pins (upd H s.heap.objs.size (.tup [x,y])) c)/\H s.heap.objs.size=none:=by
  obtain ⟨hz',hp,hsz,hk⟩:=q
  have J:Inv X pins σ (upd H s.heap.objs.size (.tup [x,y])) { s with heap:=s.heap.push { cls:=.type "tuple",data:=.seq #[u,v] } } :=
    I.laid (t':=s.toks) (fun b u e=>Heap.get?_push_of_some _ e) (Nat.le_refl _) ⟨by show 2<=sizeLine;decide,[u,v],.cons ru (.cons rv .nil),⟨_,Heap.get?_push_size _ rfl,rfl,_,rfl⟩⟩
  have lt:∀ c∈[z,TI,TO,i1,i2],c<s.heap.objs.size:=fun c hc=>by
    simp only [List.mem_cons,List.not_mem_nil,or_false] at hc
    rcases hc with rfl | rfl | rfl | rfl | rfl
    · exact let ⟨_,_,_,e⟩:=hz.z;Heap.lt_size e
    · exact Heap.lt_size hz.ti
    · exact let ⟨_,_,e⟩:=hz.to;Heap.lt_size e
    · exact let ⟨_,e,_⟩:=hz.i1;Heap.lt_size e
    · exact let ⟨_,e,_⟩:=hz.i2;Heap.lt_size e
  have hf':∀ c∈[z,TI,TO,i1,i2],FpOk X pins (upd H s.heap.objs.size (.tup [x,y])) c:=fun c hc=>⟨by rw [upd_ne (Nat.ne_of_lt (lt c hc))];exact (hf c hc).1,(hf c hc).2⟩
  refine ⟨?_,hf',I.fresh⟩
  refine L2.Inv.turnedL (s:={ s with heap:=s.heap.push { cls:=.type "tuple",data:=.seq #[u,v] } }) (t':=s.toks) (ch:=[z,TI,TO,i1,i2]) J (fun c o hc e=>?_) hf'
  simp only [List.mem_cons,List.not_mem_nil,or_false,not_or] at hc
  by_cases ec:c=s.heap.objs.size
  · subst ec
    rw [Heap.get?_push_size _ rfl] at e
    cases e
    exact hp
  · rw [Heap.get?_push_ne _ _ _ ec] at e
    exact hk c o hc.1 hc.2.2.1 hc.2.2.2.1 hc.2.2.2.2 e
theorem lz_loop {z TI TO i1 i2 a b S:Addr}{xs ys:List V}{A:Around}{R:Result->Shared->Prop}{res:Value}(D:ZipApart z TI TO i1 i2 a b) (hh:A.handled=none) (hl:xs.length=ys.length) (hsz:xs.length<=sizeLine) (hS:S∉[z,TI,TO,i1,i2]) :
    ∀ (k i:Nat) (s:Shared) (H:Hp) (ls:List V),xs.length - i=k->i<=xs.length->Inv X pins σ H s->ZAt s.heap z TI TO i1 i2 a b i->H a=some (.tup xs)->H b=some (.tup ys)->H S=some (.lst ls)->ZL H ls (xs.take i) (ys.take i)->(∀ c∈[z,TI,TO,i1,i2],FpOk X pins H c) ->
      (∀ s' H' ls',Inv X pins σ H' s'->(∀ c o,c≠S->H c=some o->H' c=some o)->H' S=some (.lst ls')->ZL H' ls' xs ys->R (.ok (.ret res)) s') ->
      codeAny (model X.prog X.w) A (.builtin "list.extend.loop" ⟨[.ref S,.ref z,res],[]⟩) R s:=by
  intro k
  induction k with
  | zero =>
    intro i s H ls hk hi I hz ha hb hSl hZ hf hR
    have hin:i=xs.length:=by omega
    subst hin
    obtain ⟨its1,rv1,p1,_⟩:=I.tuple (SqT.of ha)
    have l1:=rv1.length
    refine codeAny_builtin F.entry_extend_loop ?_
    rw [Around.under_plainId F.plain_extend_loop _]
    show wpAny _ A.in1 (pyNext (Value.ref z) >>= _) _ _ s
    refine wpAny_bind (z_pnone hh D hz p1 (by simp;omega) fun h' hk'=>wpAny_pure ?_)
    rw [List.take_length,hl,List.take_length] at hZ
    refine hR _ H ls ?_ (fun _ _ _ e=>e) hSl hZ
    refine L2.Inv.turnedL (t':=s.toks) (ch:=[z,TI,TO,i1,i2]) I (fun c o hc e=>?_) hf
    simp only [List.mem_cons,List.not_mem_nil,or_false,not_or] at hc
    exact hk' c o hc.1 hc.2.2.2.1 e
  | succ k ih =>
    intro i s H ls hk hi I hz ha hb hSl hZ hf hR
    have hlt:i<xs.length:=by omega
    obtain ⟨its1,rv1,p1,_⟩:=I.tuple (SqT.of ha)
    obtain ⟨its2,rv2,p2,_⟩:=I.tuple (SqT.of hb)
    have hx:xs[i]?=some xs[i]:=List.getElem?_eq_getElem hlt
    have hy:ys[i]?=some (ys[i]'(by omega)):=List.getElem?_eq_getElem (by omega)
    obtain ⟨u,hu,ru⟩:=rv1.get hx
    obtain ⟨v,hv,rv⟩:=rv2.get hy
    refine codeAny_builtin F.entry_extend_loop ?_
    rw [Around.under_plainId F.plain_extend_loop _]
    show wpAny _ A.in1 (pyNext (Value.ref z) >>= _) _ _ s
    refine wpAny_bind (z_pn D hz p1 p2 (x:=u) (y:=v) (by simpa using hu) (by simpa using hv) fun h' q=>?_)
    obtain ⟨J,hf',hfr⟩:=z_inv I hf hz ru rv q
    generalize hT:s.heap.objs.size=T at J hf' hfr q
    have nST:S≠T:=ne_of_none hSl hfr
    have gS:upd H T (.tup [xs[i],ys[i]'(by omega)]) S=some (.lst ls):=by rw [upd_ne nST];exact hSl
    obtain ⟨zS,its,n,rS,hlS,eS⟩:=J.lstM gS
    have hls:=hZ.1
    rw [List.length_take] at hls
    show wpAny _ A.in1 (updateSeq S (·.push (Value.ref T)) >>= _) _ _ _
    refine wpAny_bind ?_
    have J3:=J.lset (its':=its++[Value.ref T]) (ys:=ls++[.ref T]) (f:=(·.push (Value.ref T))) (t':=s.toks) gS eS (by simp) (rS.append (.cons (show RelV (V.ref T) (Value.ref T) from rfl) .nil)) (by rw [zLA,List.length_singleton];omega)
    refine wpAny_updateSeq eS rfl (wpAny_pure ⟨plainId_quiet F.plain_extend_loop _,ih (i+1) _ _ (ls++[.ref T]) (by omega) hlt J3 ?_ ?_ ?_ upd_same ?_ (fun c hc=>?_) fun s' H' ls' I' hk' g1 g2=>?_⟩) (by rw [List.size_toArray];omega) (by show (its.toArray.push (Value.ref T)).size<=sizeLine+1;rw [Array.size_push,List.size_toArray];omega)
    · exact q.1.keep fun c hc o e=>(Heap.get?_update_other _ _ (fun y:S=c=>hS (y▸hc))).trans e
    · rw [upd_ne (by rintro rfl;rw [ha] at hSl;cases hSl),upd_ne (ne_of_none ha hfr)]
      exact ha
    · rw [upd_ne (by rintro rfl;rw [hb] at hSl;cases hSl),upd_ne (ne_of_none hb hfr)]
      exact hb
    · rw [List.take_succ_eq_append_getElem hlt,List.take_succ_eq_append_getElem (by omega:i<ys.length)]
      refine hZ.snoc (by rw [List.length_take,List.length_take];omega) (fun r us e=>?_) ?_
      · rw [upd_ne (by rintro rfl;rw [e] at hSl;cases hSl),upd_ne (ne_of_none e hfr)]
        exact e
      · rw [upd_ne nST.symm,upd_same]
    · have nc:c≠S:=fun y=>hS (y▸hc)
      exact ⟨by rw [upd_ne nc];exact (hf' c hc).1,(hf' c hc).2⟩
    · refine hR s' H' ls' I' (fun c o hc e=>hk' c o hc ?_) g1 g2
      rw [upd_ne hc,upd_ne (ne_of_none e hfr)]
      exact e
theorem zip_nolen:typeLookup (.type "zip") "__len__"=pure none:=by rw [typeLookup_type,builtinLookup_eq_fast];kernel_rfl
theorem zip_nohint:typeLookup (.type "zip") "__length_hint__"=pure none:=by rw [typeLookup_type,builtinLookup_eq_fast];kernel_rfl
theorem z_hint {prog:Program}{w:World}{A:Around}{E:Value->Shared->Prop}{s:Shared}{z:Addr}{Q:Bool->Shared->Prop}(hT:s.TypeIs (.ref z) "zip") (h:Q true s):wpAny (model prog w) A (Builtin.List.listLengthHint (.ref z)) Q E s:=by
  unfold Builtin.List.listLengthHint
  refine wpAny_bind (wpAny_specialOf hT zip_nolen ?_)
  show wpAny _ _ (specialOf (Value.ref z) (Str.ofString "__length_hint__") >>= _) _ _ _
  exact wpAny_bind (wpAny_specialOf hT zip_nohint (wpAny_pure h))
def tLZ (K:PySem.W.Frag) (ta:TA):TE:=fun σ H Q=>ta σ H fun vs H1=>∃ a b xs ys,vs=[.ref a,.ref b]/\H1 a=some (.tup xs)/\H1 b=some (.tup ys)/\xs.length=ys.length/\∀ l ls H2,Same H1 H2->H1 l=none->H2 l=some (.lst ls)->ZL H2 ls xs ys->Q (.ref l) H2
theorem lz_list {s:Shared}{H:Hp}{z TI TO i1 i2 a b:Addr}{xs ys:List V}{Q:VK}(hc:X.calm=true) (D:ZipApart z TI TO i1 i2 a b) (I:Inv X pins σ H s) (hz:ZAt s.heap z TI TO i1 i2 a b 0) (hf:∀ c∈[z,TI,TO,i1,i2],FpOk X pins H c) (ha:H a=some (.tup xs)) (hb:H b=some (.tup ys)) (hl:xs.length=ys.length)
    (q:∀ l ls H2,Same H H2->H l=none->H2 l=some (.lst ls)->ZL H2 ls xs ys->Q (.ref l) H2):wpAny (model X.prog X.w) X.A (call (.type "list") [.ref z]) (EP X pins σ Q) X.xe s:=by
  have hsz:xs.length<=sizeLine:=(I.tuple (SqT.of ha)).choose_spec.2.2
  have lt:∀ c∈[z,TI,TO,i1,i2],c<s.heap.objs.size:=fun c hc=>by
    simp only [List.mem_cons,List.not_mem_nil,or_false] at hc
    rcases hc with rfl | rfl | rfl | rfl | rfl
    · exact let ⟨_,_,_,e⟩:=hz.z;Heap.lt_size e
    · exact Heap.lt_size hz.ti
    · exact let ⟨_,_,e⟩:=hz.to;Heap.lt_size e
    · exact let ⟨_,e,_⟩:=hz.i1;Heap.lt_size e
    · exact let ⟨_,e,_⟩:=hz.i2;Heap.lt_size e
  refine callType_codes (Q₁:=fun obj s₁=>obj=.ref s.heap.objs.size/\s₁={ s with heap:=s.heap.push { cls:=.type "list",data:=.seq #[] } }) PySem.F.called_list (PySem.F.typeCall_list_1 _) PySem.F.entry_list_init (code_list_new _ ⟨rfl,rfl⟩) fun obj s₁ g=>?_
  obtain ⟨rfl,rfl⟩:=g
  have J:Inv X pins σ (upd H s.heap.objs.size (.lst [])) { s with heap:=s.heap.push { cls:=.type "list",data:=.seq #[] } }:=I.lnew (ys:=[]) (its:=[]) (t':=s.toks) .nil (Nat.zero_le _)
  have hfr:=I.fresh
  have zJ:ZAt (s.heap.push { cls:=.type "list",data:=.seq #[] }) z TI TO i1 i2 a b 0:=hz.keep fun c _ o e=>Heap.get?_push_of_some _ e
  have fJ:∀ c∈[z,TI,TO,i1,i2],FpOk X pins (upd H s.heap.objs.size (.lst [])) c:=fun c hc=>⟨by rw [upd_ne (Nat.ne_of_lt (lt c hc))];exact (hf c hc).1,(hf c hc).2⟩
  have gS:(s.heap.push { cls:=.type "list",data:=.seq #[] }).get? s.heap.objs.size=some { cls:=.type "list",data:=.seq #[] }:=Heap.get?_push_size _ rfl
  refine ⟨⟨_,gS,rfl⟩,PySem.F.args_list_init_2 _ _,?_⟩
  have nS:s.heap.objs.size∉[z,TI,TO,i1,i2]:=fun y=>Nat.lt_irrefl _ (lt _ y)
  generalize hS:s.heap.objs.size=S at J fJ gS hfr nS
  generalize hh1:s.heap.push { cls:=.type "list",data:=.seq #[] }=h1 at J zJ gS
  show wpAny _ _ (do let old <- Builtin.List.listItems (.ref S);Builtin.List.listUpdate (.ref S) (fun _=>#[]);letGo old.toList.reverse;Builtin.List.listExtendWith (.ref S) (.ref z) .none) _ _ _
  refine wpAny_bind ?_
  unfold Builtin.List.listItems
  refine wpAny_bind (wpAny_seqItems gS rfl (wpAny_pure ?_))
  show wpAny _ _ (updateSeq S (fun _=>#[]) >>= fun _=>letGo (#[]:Array Value).toList.reverse >>= fun _=>Builtin.List.listExtendWith (.ref S) (.ref z) .none) _ _ _
  refine wpAny_bind (wpAny_updateSeq gS rfl ?_)
  have J2:=J.lset (its:=[]) (its':=[]) (ys:=[]) (n:=0) (f:=fun _=>(#[]:Array Value)) (t':=s.toks) upd_same gS rfl .nil (Nat.zero_le _)
  rw [upd_upd] at J2
  have g2:=Heap.get?_update_self (Obj.mapSeq (fun _=>(#[]:Array Value))) gS rfl
  have z2:ZAt (h1.update S (Obj.mapSeq (fun _=>(#[]:Array Value)))) z TI TO i1 i2 a b 0:=zJ.keep fun c hc o e=>(Heap.get?_update_other _ _ (fun y:S=c=>nS (y▸hc))).trans e
  generalize h1.update S (Obj.mapSeq (fun _=>(#[]:Array Value)))=h2 at J2 g2 z2
  refine wpAny_bind (wpAny_letGo ?_)
  unfold Builtin.List.listExtendWith
  have hT:Shared.TypeIs { s with heap:=h2 } (.ref z) "zip":=let ⟨_,_,_,e⟩:=z2.z;⟨_,e,rfl⟩
  refine wpAny_bind (wpAny_typeOf (T:="zip") hT ?_)
  have nz:S≠z:=fun y=>nS (y▸by simp)
  have e1:Builtin.List.listSameRef (.ref S) (.ref z)=false:=by simp [Builtin.List.listSameRef,nz]
  have e2:(Value.type "zip"==Value.type "list")=false:=by decide
  have e3:(Value.type "zip"==Value.type "tuple")=false:=by decide
  simp only [e1,e2,e3,Bool.or_false,Bool.false_eq_true,if_false]
  refine wpAny_bind (z_self z2 ?_)
  refine wpAny_bind (wpAny_holding (z_hint hT ?_))
  simp only [Bool.true_or,if_true]
  refine wpAny_bind (wpAny_rule (wpAny_bind ?_))
  show wpAny _ _ (updateSeq S (·.push .none) >>= fun _=>updateSeq S (·.pop)) _ _ _
  refine wpAny_bind (wpAny_updateSeq g2 rfl ?_)
  have J3:=J2.lset (its:=[]) (its':=[.none]) (ys:=[.non]) (n:=_) (f:=(·.push Value.none)) (t':=s.toks) upd_same g2 rfl (.cons rfl .nil) (by show 1<=sizeLine;decide)
  rw [upd_upd] at J3
  have g3:=Heap.get?_update_self (Obj.mapSeq (·.push Value.none)) g2 rfl
  have z3:ZAt (h2.update S (Obj.mapSeq (·.push Value.none))) z TI TO i1 i2 a b 0:=z2.keep fun c hc o e=>(Heap.get?_update_other _ _ (fun y:S=c=>nS (y▸hc))).trans e
  generalize h2.update S (Obj.mapSeq (·.push Value.none))=h3 at J3 g3 z3
  refine wpAny_updateSeq (hz:=by seq_fits) g3 rfl ?_
  have J4:=J3.lset (its:=[.none]) (its':=[]) (ys:=[]) (n:=_) (f:=(·.pop)) (t':=s.toks) upd_same g3 rfl .nil (Nat.zero_le _)
  rw [upd_upd] at J4
  have z4:ZAt (h3.update S (Obj.mapSeq (·.pop))) z TI TO i1 i2 a b 0:=z3.keep fun c hc o e=>(Heap.get?_update_other _ _ (fun y:S=c=>nS (y▸hc))).trans e
  generalize h3.update S (Obj.mapSeq (·.pop))=h4 at J4 z4
  refine wpAny_pure ⟨plainId_quiet PySem.F.plain_extend_loop _,lz_loop (A:=X.A.in1) (S:=S) (xs:=xs) (ys:=ys) D (show X.A.in1.handled=none from I.ok.hd hc) hl hsz nS xs.length 0 _ _ [] (by omega) (Nat.zero_le _) J4 z4 ?_ ?_ upd_same ⟨rfl,fun i x y e=>by simp at e⟩ fJ fun s' H' ls' I' hk g1 g2=>?_⟩
  · rw [upd_ne (ne_of_none ha hfr)];exact ha
  · rw [upd_ne (ne_of_none hb hfr)];exact hb
  · refine ⟨rfl,.ref S,H',I',rfl,q S ls' H' (fun c o e=>hk c o (ne_of_none e hfr) ?_) hfr g1 g2⟩
    rw [upd_ne (ne_of_none e hfr)]
    exact e
theorem pe_listzip {a b:Expr}{ta:TA}{p p' pos pos':Pos}(hm:X.mg "list"=none) (hm':X.mg "zip"=none) (h:PA X [a,b] ta) (hc:X.calm=true:=by rfl) (hg:Gl X "list":=by rfl) (hg':Gl X "zip":=by rfl)
    (h1:starEach [.Call (.Name "zip" p') [a,b] [] pos'] X.env=[(false,eval (.Call (.Name "zip" p') [a,b] [] pos') X.env)]:=by rfl) (hs:starEach [a,b] X.env=[(false,eval a X.env),(false,eval b X.env)]:=by rfl) (hs2:starEach [b] X.env=[(false,eval b X.env)]:=by rfl) :
    PE X (.Call (.Name "list" p) [.Call (.Name "zip" p') [a,b] [] pos'] [] pos) (tLZ X.K ta):=by
  intro pins s σ H Q I hw
  refine Call_ (ld_blt I hg hm bt_list (PyProof.Rows.callWith_type1 ?_ h1 rfl))
  rw [h1]
  refine Calls.spliced_cons ?_
  refine Call_ (ld_blt I hg' hm' bt_zip (PyProof.Rows.callWith_type1 (thn (h pos' pins s σ H _ I hw) fun us s1 ⟨vs,H1,I1,r1,q1⟩=>?_) (by rw [hs,hs2]) (by rw [hs2];rfl)))
  obtain ⟨l1,l2,xs,ys,e,ha,hb,hl,q⟩:=q1
  subst e
  obtain ⟨u,u',rfl,ru,ru'⟩:=vals2 r1
  cases ru
  cases ru'
  obtain ⟨its1,rv1,p1,_⟩:=I1.tuple (SqT.of ha)
  obtain ⟨its2,rv2,p2,_⟩:=I1.tuple (SqT.of hb)
  have lt1:@LT.lt Nat _ l1 s1.heap.objs.size:=let ⟨o,ho,_⟩:=p1;Heap.lt_size ho
  have lt2:@LT.lt Nat _ l2 s1.heap.objs.size:=let ⟨o,ho,_⟩:=p2;Heap.lt_size ho
  refine call_zt p1 p2 (Calls.spliced_nil ?_)
  obtain ⟨z5,z4,zz,zk⟩:=zt_all s1.heap l1 l2
  have I2:Inv X pins σ H1 { s1 with heap:=zt5 s1.heap l1 l2 }:=I1.kept (t':=s1.toks) zk
  refine lz_list (z:=s1.heap.objs.size+4) (s:={ s1 with heap:=zt5 s1.heap l1 l2 }) hc (zt_apart lt1 lt2) I2 zz (fun c hc=>?_) ha hb hl q
  have hc':s1.heap.objs.size<=c:=by
    simp only [List.mem_cons,List.not_mem_nil,or_false] at hc
    rcases hc with rfl | rfl | rfl | rfl | rfl <;> first | exact Nat.le_refl _ | exact Nat.le_add_right _ _
  exact I1.fpOk hc' (I1.hok.fresh hc')
end
end BF
namespace K08
open PySem L2 BF
theorem at0' {x:V}{xs:List V}:atI (x::xs) (0:Int)=some x:=atI_nat (j:=0) rfl
theorem at1' {x y:V}{xs:List V}:atI (x::y::xs) (1:Int)=some y:=atI_nat (j:=1) rfl
section
variable {P:Program}{w:World}{K:PySem.W.Frag}{mg:Str->Option Value}{base:Heap}
def hdL:Tm->List Dt
  | .num n=>[.str "number",.int n]
  | .name w=>[.str "name",.str w]
  | .blank w=>[.str "blank",.str w]
  | .thing w ps=>[.str "thing",.str w,.int ps.length]
def Clash (t u:Tm):Prop:=isB t=false/\isB u=false/\hdL t≠hdL u
theorem hdL_ne {t u:Tm}(h:isT t=false\/isT u=false):hdL t≠hdL u↔t≠u:=by
  cases t <;> cases u <;> simp [hdL,isT,nm_ne1,nm_ne2,nm_ne3,nm_ne4,nm_ne5,nm_ne6,nm_ne1',nm_ne2',nm_ne3',nm_ne4',nm_ne5',nm_ne6'] at h |-
theorem hdL_th {w v:Str}{ps qs:List Tm}:hdL (.thing w ps)≠hdL (.thing v qs)↔(w≠v\/ps.length≠qs.length):=by
  simp only [hdL,ne_eq,List.cons.injEq,Dt.str.injEq,Dt.int.injEq,true_and,and_true,Int.natCast_inj]
  exact Classical.not_and_iff_not_or_not
def spHd:Sp:=fun vs H Q _=>∃ (v:V) (t:Tm),vs=[v]/\TermAt H v t/\∀ x H',Same H H'->DatAt H' x (.tup (hdL t))->Q x H'
theorem ok_hd {f:Addr}{fd:FuncData}(F:Fun K "head" "head" s_head f fd) (T:Bi mg):FnOk P w K mg base CX0 1 f fd ["term"] spHd:=by
  refine F.ok sc_head (fun vs H Q E h=>?_) (fun cdv A outer s H vs Q E hr h=>?_)
  · obtain ⟨_,_,rfl,_⟩:=h
    rfl
  obtain ⟨v,t,rfl,ht,q⟩:=h
  apply let_ts;intro T1
  refine ⟨_,(pss_cons (ps_if (pt_cmpR op_eq (pe_ix ix_tup (pv 0) pe_int (fun _ _=>rfl)) pe_str (nomark _)) (pss_as T1 (pss_one (ps_ret (pe_tup (pa_cons pe_str (pa_cons (pe_ix ix_tup (pv 0) pe_int (fun _ _=>rfl)) (pa_cons (pe_blt call_len_seq T.b_len bt_len (pa_cons (pe_ix ix_tup (pv 0) pe_int (fun _ _=>rfl)) pa_nil)) pa_nil))))))) pss_nil) (pss_one (ps_ret (pv 0)))),?_⟩
  cases t with
  | num n =>
    obtain ⟨a1,e0,e1⟩:=termAt_num.mp ht
    subst e0
    exact ⟨_,rfl,_,_,_,_,rfl,rfl,SqT.of e1,rfl,rfl,_,rfl,ite_f (by decide +kernel) ⟨_,rfl,q _ H (Same.refl _) ht⟩⟩
  | name n =>
    obtain ⟨a1,e0,e1⟩:=termAt_name.mp ht
    subst e0
    exact ⟨_,rfl,_,_,_,_,rfl,rfl,SqT.of e1,rfl,rfl,_,rfl,ite_f (by decide +kernel) ⟨_,rfl,q _ H (Same.refl _) ht⟩⟩
  | blank n =>
    obtain ⟨a1,e0,e1⟩:=termAt_blank.mp ht
    subst e0
    exact ⟨_,rfl,_,_,_,_,rfl,rfl,SqT.of e1,rfl,rfl,_,rfl,ite_f (by decide +kernel) ⟨_,rfl,q _ H (Same.refl _) ht⟩⟩
  | thing n ps =>
    obtain ⟨a1,b1,us1,e0,e1,g1,k1⟩:=termAt_thing.mp ht
    subst e0
    have l1:=k1.len
    refine ⟨_,rfl,_,_,_,_,rfl,rfl,SqT.of e1,rfl,rfl,_,rfl,ite_t (by decide +kernel) ⟨_,rfl,_,_,_,_,rfl,rfl,SqT.of e1,rfl,_,rfl,_,_,_,_,rfl,rfl,SqT.of e1,rfl,b1,us1,rfl,.inr (SqT.of g1),(by show 3<=sizeLine;decide),fun g fg=>?_⟩⟩
    refine q _ _ (same_new fg _) ?_
    simp only [hdL,DatAt,DatsAt]
    exact ⟨g,_,rfl,upd_same,_,_,rfl,rfl,_,_,rfl,rfl,_,_,rfl,by rw [l1],rfl⟩
end
section
variable {P:Program}{w:World}{K:PySem.W.Frag}{mg:Str->Option Value}{base:Heap}
theorem hdL_dep (t:Tm):(Dt.tup (hdL t)).dep<=4:=by
  cases t <;> simp [hdL,Dt.dep,depL]
def Prs (H:Hp) (us:List V) (ps:List Ln):Prop:=Paired (fun x p=>∃ g a b,x=.ref g/\H g=some (.tup [a,b])/\TermAt H a p.1/\TermAt H b p.2) us ps
theorem Prs.mono {H H':Hp}{us:List V}{ps:List Ln}(k:TSame H H') (h:Prs H us ps):Prs H' us ps :=
  paired_mono (fun _ _ ⟨g,a,b,e,h1,h2,h3⟩=>⟨g,a,b,e,k _ _ h1,h2.mono k,h3.mono k⟩) h
theorem Prs.snoc {H:Hp}:∀ {us:List V}{u:V}{ds:List Ln}{d:Ln},Prs H (us++[u]) (ds++[d])->Prs H us ds/\∃ g a b,u=.ref g/\H g=some (.tup [a,b])/\TermAt H a d.1/\TermAt H b d.2
  | [],_,[],_,.cons h .nil=>⟨.nil,h⟩
  | [],_,_::[],_,.cons _ r=>nomatch r
  | [],_,_::_::_,_,.cons _ r=>nomatch r
  | _::[],_,[],_,.cons _ r=>nomatch r
  | _::_::_,_,[],_,.cons _ r=>nomatch r
  | _::_,_,_::_,_,.cons h r=>let ⟨a,b⟩:=Prs.snoc r;⟨.cons h a,b⟩
theorem Prs.app {H:Hp}{us vs:List V}{ps qs:List Ln}(h:Prs H us ps) (h':Prs H vs qs):Prs H (us++vs) (ps++qs):=by
  unfold Prs at h h' |-
  induction h with
  | nil=>exact h'
  | cons a _ ih=>exact .cons a ih
theorem hdL_eq {t u:Tm}(h:hdL t=hdL u):t=u\/∃ w ps qs,t=.thing w ps/\u=.thing w qs/\ps.length=qs.length:=by
  by_cases c:isT t=false\/isT u=false
  · exact .inl (Classical.byContradiction fun z=>(hdL_ne c).mpr z h)
  · cases t <;> cases u <;> simp [isT] at c
    rename_i w ps v qs
    have:¬ (w≠v\/ps.length≠qs.length):=fun z=>hdL_th.mpr z h
    have hw:w=v:=Classical.byContradiction fun z=>this (.inl z)
    have hl:ps.length=qs.length:=Classical.byContradiction fun z=>this (.inr z)
    subst hw
    exact .inr ⟨w,ps,qs,rfl,rfl,hl⟩
theorem eq_parts {ps qs:List Tm}(hl:ps.length=qs.length):ps=qs↔∀ z∈ps.zip qs,z.1=z.2:=by
  induction ps generalizing qs with
  | nil=>cases qs <;> simp at hl |-
  | cons p r ih =>
    cases qs with
    | nil=>simp at hl
    | cons q s =>
      simp only [zLC,Nat.add_right_cancel_iff] at hl
      simp only [List.cons.injEq,List.zip_cons_cons,List.mem_cons,forall_eq_or_imp,ih hl]
theorem paired_of_get {α β:Type}{F:α->β->Prop}:∀ {l:List α}{m:List β},l.length=m.length->(∀ (i:Nat) (h1:i<l.length) (h2:i<m.length),F l[i] m[i])->Paired F l m
  | [],[],_,_=>.nil
  | _::_,_::_,hl,h=>.cons (h 0 (by simp) (by simp)) (paired_of_get (by simpa using hl) fun i h1 h2=>h (i+1) (by simpa using h1) (by simpa using h2))
  | [],_::_,hl,_=>by simp at hl
  | _::_,[],hl,_=>by simp at hl
theorem ZL.prs {H:Hp}{ls xs ys:List V}{ts us:List Tm}(h:ZL H ls xs ys) (h1:TermsAt H xs ts) (h2:TermsAt H ys us) (hl:ts.length=us.length):Prs H ls (ts.zip us):=by
  have l1:=h1.len
  have l2:=h2.len
  refine paired_of_get (by rw [List.length_zip,h.1,l1];omega) fun i h3 h4=>?_
  have hi:i<xs.length:=by have:=h.1;omega
  obtain ⟨p,e1,e2⟩:=h.2 i _ _ (List.getElem?_eq_getElem hi) (List.getElem?_eq_getElem (by omega))
  rw [List.getElem?_eq_getElem h3] at e1
  refine ⟨p,_,_,Option.some.inj e1,e2,?_,?_⟩
  · rw [List.getElem_zip]
    exact h1.at i hi (by omega)
  · rw [List.getElem_zip]
    exact h2.at i (by omega) (by omega)
def spSame:Sp:=fun vs H Q _=>∃ (v v':V) (t u:Tm),vs=[v,v']/\TermAt H v t/\TermAt H v' u/\t.nodes<=30000/\∀ (b:Bool) H',Same H H'->(b=true↔t=u)->Q (.bl b) H'
theorem ok_same {f:Addr}{fd:FuncData}(F:Fun K "same" "same" s_same f fd) (T:Bi mg) (TZ:mg "zip"=none) (c_head:Cal P w K mg base 1 "head" ["term"] spHd):FnOk P w K mg base CX0 2 f fd ["one","other"] spSame:=by
  refine F.ok sc_same (fun vs H Q E h=>?_) (fun cdv A outer s H vs Q E hr h=>?_)
  · obtain ⟨_,_,_,_,rfl,_⟩:=h
    rfl
  obtain ⟨v,v',t,u,rfl,ht,hu,hn,q⟩:=h
  have hun:=hr.un
  apply let_ts;intro T1
  apply let_ts;intro T2
  apply let_ts;intro T3
  apply let_ts;intro T4
  apply let_ts;intro T5
  refine ⟨_,(pss_cons (ps_set (i:=2) sc_same.nd rfl (Or.inl rfl) (pe_lst (pa_cons (pe_tup (pa_cons (pv 0) (pa_cons (pv 1) pa_nil))) pa_nil))) (pss_as T5 (pss_cons (ps_while PassesOwn.never (pt_truth (pv 2) (fun _=>rfl)) (pss_as T4 (pss_cons (ps_set (i:=3) sc_same.nd rfl (Or.inl rfl) (pe_bm0 PySem.F.plainAttrs_list PySem.F.slot_list_pop PySem.F.type_list_pop mt_pop (pv 2))) (pss_as T3 (pss_cons (ps_if (pt_cmpR op_neT (pe_cal c_head (hr.mono (by decide)) (pa_cons (pe_ix ix_tup (pv 3) pe_int (fun _ _=>rfl)) pa_nil)) (pe_cal c_head (hr.mono (by decide)) (pa_cons (pe_ix ix_tup (pv 3) pe_int (fun _ _=>rfl)) pa_nil)) (nomark _)) (pss_one (ps_ret pe_bl)) pss_nil) (pss_as T2 (pss_one (ps_if (pt_cmpR op_eq (pe_ix ix_tup (pe_ix ix_tup (pv 3) pe_int (fun _ _=>rfl)) pe_int (fun _ _=>rfl)) pe_str (nomark _)) (pss_as T1 (pss_one (ps_expr (pe_bm PySem.F.plainAttrs_list PySem.F.slot_list_extend PySem.F.type_list_extend mt_extend (pv 2) (pa_cons (pe_listzip T.b_list TZ (pa_cons (pe_ix ix_tup (pe_ix ix_tup (pv 3) pe_int (fun _ _=>rfl)) pe_int (fun _ _=>rfl)) (pa_cons (pe_ix ix_tup (pe_ix ix_tup (pv 3) pe_int (fun _ _=>rfl)) pe_int (fun _ _=>rfl)) pa_nil))) pa_nil))))) pss_nil)))))))) (pss_one (ps_ret pe_bl))))),?_⟩
  refine ⟨_,rfl,_,rfl,(by show 2<=sizeLine;decide),fun g0 hg0=>?_⟩
  have s1:=same_new hg0 (HO.tup [v,v'])
  have x1:upd H g0 (HO.tup [v,v']) g0=some _:=upd_same
  generalize upd H g0 (HO.tup [v,v'])=H1 at s1 x1 |-
  refine ⟨(by show 1<=sizeLine;decide),fun p hp1=>?_⟩
  have hp:H p=none:=s1.free hp1
  have s2:=same_new hp1 (HO.lst [.ref g0])
  refine ⟨fun m σ H3=>∃ (o:Option V) (us:List V) (ps:List Ln),σ=[some v,some v',some (.ref p),o]/\Same H H3/\H3 p=some (.lst us)/\Prs H3 us ps/\nodesL (ps.map (·.1))=m/\m<=t.nodes/\((∀ z∈ps,z.1=z.2)↔t=u),
    ⟨_,none,[.ref g0],[(t,u)],rfl,s1.trans s2,upd_same,.cons ⟨g0,v,v',rfl,s2 _ _ x1,ht.mono (.of (s1.trans s2)),hu.mono (.of (s1.trans s2))⟩ .nil,rfl,by simp [nodesL],by simp⟩,?_⟩
  rintro m σ H3 ⟨o,us,ps,rfl,s3,g2,hps,hm,hmt,hiff⟩
  refine ⟨_,rfl,_,.inl ⟨us,SqL.of g2,rfl⟩,ite2 (fun c=>⟨_,fun _ _ h=>h,?_⟩) (fun c=>?_)⟩
  · have hne:us≠[]:=by intro z;rw [z] at c;exact absurd c (by decide)
    have hlen:=Paired.length hps
    obtain ⟨us0,x,rfl⟩:=snoc_of hne
    obtain ⟨ps0,⟨t1,u1⟩,rfl⟩:=snoc_of (l:=ps) (by intro z;rw [z] at hlen;simp at hlen)
    obtain ⟨h0,g,a,b,rfl,hg,ha,hb⟩:=hps.snoc
    rw [List.map_append,nodesL_append] at hm
    simp only [List.map_cons,List.map_nil,nodesL] at hm
    have hn1:=t1.nodes_pos
    refine ⟨_,rfl,.inl ⟨rfl,_,SqL.of g2⟩,p,_,.ref g,rfl,rfl,g2,by simp,?_⟩
    rw [List.dropLast_concat]
    have k4:TSame H3 (upd H3 p (HO.lst us0)):=.lst g2
    have x4:upd H3 p (HO.lst us0) p=some _:=upd_same
    have s4:Same H (upd H3 p (HO.lst us0)):=fun b ob z=>by rw [upd_ne (ne_of_none z hp)];exact s3 _ _ z
    generalize upd H3 p (HO.lst us0)=H4 at k4 x4 s4 |-
    have hg4:=k4 _ _ hg
    have ha4:=ha.mono k4
    have hb4:=hb.mono k4
    have h04:=h0.mono k4
    refine ⟨_,rfl,_,_,_,_,rfl,rfl,SqT.of hg4,at0',_,t1,rfl,ha4,fun y1 H5 s5 d1=>?_⟩
    refine ⟨_,rfl,_,_,_,_,rfl,rfl,SqT.of (s5 _ _ hg4),at1',_,u1,rfl,hb4.mono (.of s5),fun y2 H6 s6 d2=>?_⟩
    have hdd:=hdL_dep t1
    refine ⟨hdL t1,hdL u1,d1.same s6,d2,(by show (A.deeper _).units+_<cLine;omega),fun b hb'=>⟨_,rfl,ite2 (fun c2=>?_) (fun c2=>?_)⟩⟩
    · refine q false H6 (s4.trans (s5.trans s6)) ⟨fun z=>(by cases z),fun z=>?_⟩
      have:=hiff.mpr z (t1,u1) (by simp)
      exact absurd (congrArg hdL this) (hb'.mp c2)
    · have s46:=s5.trans s6
      have heq:hdL t1=hdL u1:=Classical.byContradiction fun z=>c2 (hb'.mpr z)
      have ha6:=ha4.mono (.of s46)
      have hb6:=hb4.mono (.of s46)
      have x6:=s46 _ _ x4
      have hg6:=s46 _ _ hg4
      have h06:=h04.mono (.of s46)
      have s6':=s4.trans s46
      obtain ⟨a1,xs1,kk,rfl,f1,_,hT1⟩:=ha6.kind
      refine ⟨_,rfl,_,_,_,_,rfl,rfl,SqT.of hg6,at0',_,_,_,_,rfl,rfl,SqT.of f1,at0',rfl,_,rfl,ite2 (fun c3=>?_) (fun c3=>?_)⟩
      · have c1:isT t1=true:=hT1.mp (by simpa using c3)
        obtain ⟨w1,ps1,qs1,e1,e2,hl⟩:∃ w ps qs,t1=.thing w ps/\u1=.thing w qs/\ps.length=qs.length:=by
          rcases hdL_eq heq with z | z
          · subst z
            cases t1 with
            | num _=>cases c1
            | name _=>cases c1
            | blank _=>cases c1
            | thing w ps=>exact ⟨w,ps,ps,rfl,rfl,rfl⟩
          · exact z
        subst e1 e2
        obtain ⟨b1,d1',us1,e1,j1,g1,m1⟩:=termAt_thing.mp ha6
        obtain ⟨b2,d2',us2,e2,j2,g2',m2⟩:=termAt_thing.mp hb6
        cases e1
        subst e2
        have l1:=m1.len
        have l2:=m2.len
        have hpn:=len_le_nodes ps1
        simp only [Tm.nodes] at hm
        have hlen0:us0.length<=nodesL (ps0.map (·.1)):=by
          have:=Paired.length h06
          have:=len_le_nodes (ps0.map (·.1))
          rw [zLM] at this
          omega
        refine ⟨_,rfl,.inl ⟨rfl,_,SqL.of x6⟩,_,rfl,_,_,_,_,rfl,rfl,SqT.of hg6,at0',_,_,_,_,rfl,rfl,SqT.of j1,rfl,_,rfl,_,_,_,_,rfl,rfl,SqT.of hg6,at1',_,_,_,_,rfl,rfl,SqT.of j2,rfl,d1',d2',us1,us2,rfl,g1,g2',by omega,fun l ls H7 s7 fl x7 hzl=>?_⟩
        refine ⟨p,l,us0,ls,rfl,rfl,s7 _ _ x6,x7,small (by have:=hzl.1;omega),?_⟩
        have k8:TSame H7 (upd H7 p (HO.lst (us0++ls))):=.lst (s7 _ _ x6)
        refine ⟨nodesL ((ps0++ps1.zip qs1).map (·.1)),?_,_,us0++ls,ps0++ps1.zip qs1,rfl,fun b' ob z=>by rw [upd_ne (ne_of_none z hp)];exact s7 _ _ (s6' _ _ z),upd_same,(Prs.app (h06.mono (.of s7)) (ZL.prs hzl (m1.mono (.of s7)) (m2.mono (.of s7)) hl)).mono k8,rfl,?_,?_⟩
        · rw [List.map_append,nodesL_append,List.map_fst_zip (by omega)]
          omega
        · rw [List.map_append,nodesL_append,List.map_fst_zip (by omega)]
          omega
        · rw [<- hiff]
          constructor
          · intro hz z hz'
            rcases List.mem_append.mp hz' with y | y
            · exact hz z (List.mem_append_left _ y)
            · cases List.mem_singleton.mp y
              show Tm.thing w1 ps1=.thing w1 qs1
              rw [(eq_parts hl).mpr fun z hz'=>hz z (List.mem_append_right _ hz')]
          · intro hz z hz'
            rcases List.mem_append.mp hz' with y | y
            · exact hz z (List.mem_append_left _ y)
            · have:=hz (.thing w1 ps1,.thing w1 qs1) (by simp)
              exact (eq_parts hl).mp (Tm.thing.inj this).2 z y
      · have c1:isT t1=false:=Bool.eq_false_iff.mpr fun z=>c3 (by simpa using hT1.mpr z)
        have e0:t1=u1:=by
          rcases hdL_eq heq with z | ⟨_,_,_,z,_⟩
          · exact z
          · rw [z] at c1;cases c1
        refine ⟨nodesL (ps0.map (·.1)),by omega,_,us0,ps0,rfl,s6',x6,h06,rfl,by omega,?_⟩
        rw [<- hiff]
        constructor
        · intro hz z hz'
          rcases List.mem_append.mp hz' with y | y
          · exact hz z y
          · cases List.mem_singleton.mp y
            exact e0
        · intro hz z hz'
          exact hz z (List.mem_append_left _ hz')
  · have e:us=[]:=by
      cases us with
      | nil=>rfl
      | cons a b=>exact absurd rfl c
    subst e
    have hlen:=Paired.length hps
    have e:ps=[]:=List.length_eq_zero_iff.mp hlen.symm
    subst e
    exact q true H3 s3 ⟨fun _=>hiff.mp fun z hz=>(by cases hz),fun _=>rfl⟩
end
end K08
namespace K08
open PySem L2 BF
section
variable {P:Program}{w:World}{K:PySem.W.Frag}{mg:Str->Option Value}{base:Heap}
def spShownLeaf:Sp:=fun vs H Q _=>∃ (v:V) (t:Tm),vs=[v]/\TermAt H v t/\t.Ok/\(∀ x ps,t≠.thing x ps)/\∀ x:Str,x.cps.toList=t.line->Q (.str x) H
theorem ok_shown_leaf {f:Addr}{fd:FuncData}(F:Fun K "shown_leaf" "shown_leaf" s_shown_leaf f fd) (T:Bi mg):FnOk P w K mg base CX0 1 f fd ["term"] spShownLeaf:=by
  refine F.ok sc_shown_leaf (fun vs H Q E h=>?_) (fun cdv A outer s H vs Q E hr h=>?_)
  · obtain ⟨v,t,rfl,_⟩:=h
    rfl
  obtain ⟨v,t,rfl,ht,hok,hno,q⟩:=h
  refine ⟨_,(pss_cons (ps_if (pt_cmpR op_eq (pe_ix ix_tup (pv 0) pe_int (fun _ _=>rfl)) pe_str (nomark _)) (pss_one (ps_ret (pe_bty call_str_int T.b_str bt_str (pa_cons (pe_ix ix_tup (pv 0) pe_int (fun _ _=>rfl)) pa_nil)))) pss_nil)
      (pss_cons (ps_if (pt_cmpR op_eq (pe_ix ix_tup (pv 0) pe_int (fun _ _=>rfl)) pe_str (nomark _)) (pss_one (ps_ret (pe_op op_add_str pe_str (pe_ix ix_tup (pv 0) pe_int (fun _ _=>rfl))))) pss_nil)
      (pss_one (ps_ret (pe_ix ix_tup (pv 0) pe_int (fun _ _=>rfl)))))),?_⟩
  cases t with
  | thing x ps=>exact absurd rfl (hno x ps)
  | num n =>
    obtain ⟨a,rfl,h1⟩:=termAt_num.mp ht
    refine ⟨_,rfl,_,_,_,_,rfl,rfl,SqT.of h1,rfl,rfl,_,rfl,ite_t (by decide +kernel) ?_⟩
    refine ⟨_,rfl,_,_,_,_,rfl,rfl,SqT.of h1,rfl,n,rfl,num_small hok,?_⟩
    exact q _ rfl
  | name x =>
    obtain ⟨a,rfl,h1⟩:=termAt_name.mp ht
    refine ⟨_,rfl,_,_,_,_,rfl,rfl,SqT.of h1,rfl,rfl,_,rfl,ite_f (by decide +kernel) ?_⟩
    refine ⟨_,rfl,_,_,_,_,rfl,rfl,SqT.of h1,rfl,rfl,_,rfl,ite_f (by decide +kernel) ?_⟩
    refine ⟨_,rfl,_,_,_,_,rfl,rfl,SqT.of h1,rfl,?_⟩
    exact q _ rfl
  | blank x =>
    obtain ⟨a,rfl,h1⟩:=termAt_blank.mp ht
    refine ⟨_,rfl,_,_,_,_,rfl,rfl,SqT.of h1,rfl,rfl,_,rfl,ite_f (by decide +kernel) ?_⟩
    refine ⟨_,rfl,_,_,_,_,rfl,rfl,SqT.of h1,rfl,rfl,_,rfl,ite_t (by decide +kernel) ?_⟩
    simp only [Tm.Ok] at hok
    refine ⟨_,rfl,_,_,_,_,rfl,rfl,SqT.of h1,rfl,_,_,rfl,rfl,?_,?_⟩
    · rw [len_cps,len_cps,quest_cps]
      have:=hok.2.1
      exact small (by simp only [zLC,zLN];omega)
    · exact q _ (by rw [cps_append,quest_cps];simp only [Tm.line,List.cons_append,List.nil_append])
def spPush (K:PySem.W.Frag):Sp:=fun vs H Q _=>∃ (p b:Addr) (us pv:List V) (t:Tm) (ts:List Tm),vs=[.ref p,.ref b]/\H p=some (.lst us)/\H b=some (.tup pv)/\TermsAt H pv (t::ts)/\us.length+2 * pv.length<=5000 /\
  ∀ (ws:List V) (H':Hp),(∀ c o,H c=some o->c≠p->H' c=some o)->H' p=some (.lst (us++ws))->PcsAt H' ws (pushed t ts)->Q .non H'
theorem ok_push_parts {f:Addr}{fd:FuncData}(F:Fun K "push_parts" "push_parts" s_push_parts f fd) (T:Bi mg):FnOk P w K mg base CX0 1 f fd ["coming","parts"] (spPush K):=by
  refine F.ok sc_push_parts (fun vs H Q E h=>?_) (fun cdv A outer s H vs Q E hr h=>?_)
  · obtain ⟨p,b,us,pv,t,ts,rfl,_⟩:=h
    rfl
  obtain ⟨p,b,us,pv,t,ts,rfl,hp,hb,ht,hlen,q⟩:=h
  have hpl:=ht.len
  obtain ⟨v0,rv,rfl⟩:∃ v0 rv,pv=v0::rv:=by
    cases pv with
    | nil=>simp at hpl
    | cons a r=>exact ⟨a,r,rfl⟩
  simp only [zLC] at hpl hlen
  have npb:b≠p:=ne_of hb hp (by intro z;cases z)
  have htt:TermAt H v0 t/\TermsAt H rv ts:=by
    have h:=ht
    simp only [TermsAt,dtL,DatsAt] at h
    obtain ⟨v,us',e,h1,h2⟩:=h
    cases e
    exact ⟨h1,h2⟩
  refine ⟨_,(pss_cons (ps_expr (pe_bm PySem.F.plainAttrs_list PySem.F.slot_list_append PySem.F.type_list_append mt_append (pv 0) (pa_cons pe_str pa_nil)))
      (pss_cons (ps_for PassesOwn.never rfl (pi_revT rfl T.b_reversed (pa_cons (pe_slice sl_tup (pv 1) (po_some pe_int) po_none) pa_nil)) (pg_name (i:=2) sc_push_parts.nd rfl (Or.inl rfl)) (pss_cons (ps_expr (pe_bm PySem.F.plainAttrs_list PySem.F.slot_list_append PySem.F.type_list_append mt_append (pv 0) (pa_cons (pv 2) pa_nil)))
        (pss_one (ps_expr (pe_bm PySem.F.plainAttrs_list PySem.F.slot_list_append PySem.F.type_list_append mt_append (pv 0) (pa_cons pe_str pa_nil))))))
      (pss_one (ps_expr (pe_bm PySem.F.plainAttrs_list PySem.F.slot_list_append PySem.F.type_list_append mt_append (pv 0) (pa_cons (pe_ix ix_tup (pv 1) pe_int (fun _ _=>rfl)) pa_nil)))))),?_⟩
  refine ⟨_,rfl,.inl ⟨rfl,_,SqL.of hp⟩,p,us,_,rfl,rfl,hp,big (by omega),?_⟩
  have k1:TSame H (upd H p (HO.lst (us++[.str ")"]))):=.lst hp
  have x1:upd H p (HO.lst (us++[.str ")"])) p=some _:=upd_same
  have y1:∀ c o,H c=some o->c≠p->upd H p (HO.lst (us++[.str ")"])) c=some o:=fun c o e n=>by rw [upd_ne n];exact e
  have z1:∀ c,c≠p->upd H p (HO.lst (us++[.str ")"])) c=H c:=fun c n=>upd_ne n
  generalize upd H p (HO.lst (us++[.str ")"]))=H1 at k1 x1 y1 z1 |-
  refine ⟨_,rfl,_,rfl,b,_,rfl,SqT.of (y1 _ _ hb npb),?_,fun sl hsl=>?_⟩
  · rintro ⟨z,_⟩
    have es:HT.sIx (v0::rv).length 0 (some 1)=min 1 (v0::rv).length:=HT.sIx_nat _ _ 1
    rw [es] at z
    simp only [zLC] at z
    omega
  have ecut:cutV (v0::rv) (some 1) none=rv:=by
    rw [cut_from _ _ (by decide) (by simp only [zLC];omega)]
    rfl
  rw [ecut]
  have s2:=same_new hsl (HO.tup rv)
  have x2:upd H1 sl (HO.tup rv) sl=some _:=upd_same
  generalize upd H1 sl (HO.tup rv)=H2 at s2 x2 |-
  refine ⟨sl,rv,rfl,SqT.of x2,for_rev (K:=K) (a:=sl) (xs:=rv) (fun i σ H3=>∃ (ws:List V) (o:Option V),σ=[some (.ref p),some (.ref b),o]/\(∀ c o,H2 c=some o->c≠p->H3 c=some o)/\H3 p=some (.lst (us++ws)) /\
      PcsAt H3 ws ([Pc.sg ")"]++(ts.reverse.take i).flatMap fun u=>[Pc.tm u,Pc.sg ","]))
    ⟨[.str ")"],none,rfl,fun c o e _=>e,s2 _ _ x1,.cons rfl .nil⟩ (fun i σ H3 _ ⟨_,_,_,kp,_,_⟩=>SqT.of (kp _ _ x2 (ne_of x2 (s2 _ _ x1) (by intro z;cases z)))) ?_ ?_⟩
  · rintro i x σ H3 hi ⟨ws,o,rfl,kp,hp3,hw⟩
    have hit:i<rv.reverse.length:=(List.getElem?_eq_some_iff.mp hi).1
    rw [List.length_reverse] at hit
    have hwl:=hw.len
    have hfl:∀ l:List Tm,(l.flatMap fun u=>[Pc.tm u,Pc.sg ","]).length=2 * l.length:=fun l=>by
      induction l with
      | nil=>rfl
      | cons a r ih=>simp only [List.flatMap_cons,zLA,zLC,zLN,ih];omega
    rw [zLA,hfl,List.length_take,List.length_reverse] at hwl
    simp only [zLC,zLN] at hwl
    have k3:TSame H H3:=fun c xs e=>kp _ _ (s2 _ _ (k1 _ _ e)) (ne_of e hp (by intro z;cases z))
    have tl:ts.length=rv.length:=by omega
    have tlr:i<ts.reverse.length:=by rw [List.length_reverse];omega
    have hx:TermAt H3 x ts.reverse[i]:=by
      rw [List.getElem?_reverse hit] at hi
      have h1:rv.length - 1 - i<rv.length:=by omega
      rw [List.getElem?_eq_getElem h1] at hi
      cases hi
      rw [List.getElem_reverse]
      have:=htt.2.at (rv.length - 1 - i) h1 (by omega)
      have e:ts.length - 1 - i=rv.length - 1 - i:=by omega
      simp only [e]
      exact this.mono k3
    refine ⟨_,rfl,.inl ⟨rfl,_,SqL.of hp3⟩,_,rfl,p,_,_,rfl,rfl,hp3,big (by rw [zLA];omega),?_⟩
    refine ⟨_,rfl,.inl ⟨rfl,_,SqL.of upd_same⟩,p,_,_,rfl,rfl,upd_same,big (by rw [zLA,zLA];simp only [zLC,zLN];omega),?_⟩
    rw [upd_upd]
    have k4:TSame H3 (upd H3 p (HO.lst (us++ws++[x]++[.str ","]))):=.lst hp3
    refine ⟨ws++[x]++[.str ","],_,rfl,fun c o e n=>by rw [upd_ne n];exact kp c o e n,by rw [upd_same];simp only [List.append_assoc],?_⟩
    have e:(ts.reverse.take (i+1)).flatMap (fun u=>[Pc.tm u,Pc.sg ","])=(ts.reverse.take i).flatMap (fun u=>[Pc.tm u,Pc.sg ","])++[Pc.tm ts.reverse[i]]++[Pc.sg ","]:=by
      rw [List.take_succ_eq_append_getElem (by rw [List.length_reverse];omega),List.flatMap_append]
      simp
    rw [e,<- List.append_assoc,<- List.append_assoc]
    exact PcsAt.app (PcsAt.app (PcsAt.mono k4 hw) (.cons (TermAt.mono k4 hx) .nil)) (.cons rfl .nil)
  · rintro σ H3 ⟨ws,o,rfl,kp,hp3,hw⟩
    have hwl:=hw.len
    have hfl:∀ l:List Tm,(l.flatMap fun u=>[Pc.tm u,Pc.sg ","]).length=2 * l.length:=fun l=>by
      induction l with
      | nil=>rfl
      | cons a r ih=>simp only [List.flatMap_cons,zLA,zLC,zLN,ih];omega
    rw [zLA,hfl,List.length_take,List.length_reverse] at hwl
    simp only [zLC,zLN] at hwl
    have k3:TSame H H3:=fun c xs e=>kp _ _ (s2 _ _ (k1 _ _ e)) (ne_of e hp (by intro z;cases z))
    have hb3:H3 b=some (.tup (v0::rv)):=k3 _ _ hb
    refine ⟨_,rfl,.inl ⟨rfl,_,SqL.of hp3⟩,_,rfl,_,_,_,_,rfl,rfl,SqT.of hb3,atI_nat (j:=0) rfl,p,_,_,rfl,rfl,hp3,big (by rw [zLA];omega),?_⟩
    have k4:TSame H3 (upd H3 p (HO.lst (us++ws++[v0]))):=.lst hp3
    refine q (ws++[v0]) _ (fun c o e n=>by rw [upd_ne n];exact kp c o (s2 _ _ (y1 c o e n)) n) (by rw [upd_same,List.append_assoc]) ?_
    have e:ts.reverse.take rv.length=ts.reverse:=List.take_of_length_le (by rw [List.length_reverse];omega)
    rw [e] at hw
    exact PcsAt.app (PcsAt.mono k4 hw) (.cons (TermAt.mono k4 (htt.1.mono k3)) .nil)
end
section
variable {P:Program}{w:World}{K:PySem.W.Frag}{mg:Str->Option Value}{base:Heap}
def spShown:Sp:=fun vs H Q _=>∃ (v:V) (t:Tm),vs=[v]/\TermAt H v t/\t.Ok/\t.nodes<=300/\∀ (x:Str) (H':Hp),Same H H'->x.cps.toList=t.line->Q (.str x) H'
theorem ok_shown {f:Addr}{fd:FuncData}(F:Fun K "shown" "shown" s_shown f fd) (T:Bi mg) (c_shown_leaf:Cal P w K mg base 1 "shown_leaf" ["term"] spShownLeaf) (c_push_parts:Cal P w K mg base 1 "push_parts" ["coming","parts"] (spPush K)) :
    FnOk P w K mg base CX0 2 f fd ["term"] spShown:=by
  refine F.ok sc_shown (fun vs H Q E h=>?_) (fun cdv A outer s H vs Q E hr h=>?_)
  · obtain ⟨v,t,rfl,_⟩:=h
    rfl
  obtain ⟨v,t,rfl,ht,hok,hn,q⟩:=h
  have hll:=Tm.line_len t hok
  refine ⟨_,(pss_cons (ps_set (i:=1) sc_shown.nd rfl (Or.inl rfl) (pe_lst pa_nil))
      (pss_cons (ps_set (i:=2) sc_shown.nd rfl (Or.inl rfl) (pe_lst (pa_cons (pv 0) pa_nil)))
      (pss_cons (ps_while PassesOwn.never (pt_truth (pv 2) (fun _=>rfl)) (pss_cons (ps_set (i:=3) sc_shown.nd rfl (Or.inl rfl) (pe_bm0 PySem.F.plainAttrs_list PySem.F.slot_list_pop PySem.F.type_list_pop mt_pop (pv 2)))
        (pss_one (ps_if (pt_val (pe_blt call_isi T.b_isinstance bt_isinstance (pa_cons (pv 3) (pa_cons (pe_tyn T.b_str bt_str) pa_nil)))) (pss_one (ps_expr (pe_bm PySem.F.plainAttrs_list PySem.F.slot_list_append PySem.F.type_list_append mt_append (pv 1) (pa_cons (pv 3) pa_nil)))) (pss_one (ps_if (pt_cmpR op_eq (pe_ix ix_tup (pv 3) pe_int (fun _ _=>rfl)) pe_str (nomark _)) (pss_cons (ps_expr (pe_bm PySem.F.plainAttrs_list PySem.F.slot_list_append PySem.F.type_list_append mt_append (pv 1) (pa_cons (pe_op op_add_str (pe_ix ix_tup (pv 3) pe_int (fun _ _=>rfl)) pe_str) pa_nil)))
            (pss_one (ps_expr (pe_cal c_push_parts (hr.mono (by decide)) (pa_cons (pv 2) (pa_cons (pe_ix ix_tup (pv 3) pe_int (fun _ _=>rfl)) pa_nil)))))) (pss_one (ps_expr (pe_bm PySem.F.plainAttrs_list PySem.F.slot_list_append PySem.F.type_list_append mt_append (pv 1) (pa_cons (pe_cal c_shown_leaf (hr.mono (by decide)) (pa_cons (pv 3) pa_nil)) pa_nil))))))))))
      (pss_one (ps_ret (pe_bm PySem.F.plainAttrs_str PySem.F.slot_str_join PySem.F.type_str_join mt_join pe_str (pa_cons (pv 1) pa_nil))))))),?_⟩
  refine ⟨(by show 0<=sizeLine;decide),fun p1 hp1=>?_⟩
  have s1:=same_new hp1 (HO.lst [])
  have x1:upd H p1 (HO.lst []) p1=some _:=upd_same
  generalize upd H p1 (HO.lst [])=H1 at s1 x1 |-
  refine ⟨_,rfl,(by show 1<=sizeLine;decide),fun p2 hp2=>?_⟩
  have s2:=same_new hp2 (HO.lst [v])
  have x2:upd H1 p2 (HO.lst [v]) p2=some _:=upd_same
  have n12:p1≠p2:=ne_of_none x1 hp2
  have f2:H p2=none:=s1.free hp2
  have k2:TSame H1 (upd H1 p2 (HO.lst [v])):=.new hp2
  generalize upd H1 p2 (HO.lst [v])=H2 at s2 x2 k2 |-
  refine ⟨fun m σ H3=>∃ (o:Option V) (xs:List Str) (us:List V) (l:List Pc),σ=[some v,some (.ref p1),some (.ref p2),o]/\Same H H3/\H3 p1=some (.lst (xs.map V.str))/\H3 p2=some (.lst us)/\PcsAt H3 us l/\(∀ c∈l,PcOk c) /\
      wts l=m/\flat xs++outs l=t.line/\xs.length+m<=3 * t.nodes,
    ⟨_,none,[],[v],[Pc.tm t],rfl,s1.trans s2,s2 _ _ x1,x2,.cons (ht.mono (.of (s1.trans s2))) .nil,by simpa [PcOk] using hok,rfl,by simp [flat,outs,Pc.out],by simp [wts,Pc.wt]⟩,?_⟩
  rintro m σ H3 ⟨o,xs,us,l,rfl,s3,g1,g2,hus,hpo,hm,hout,hsz⟩
  refine ⟨_,rfl,_,.inl ⟨us,SqL.of g2,rfl⟩,ite2 (fun c=>⟨_,fun _ _ h=>h,?_⟩) (fun c=>?_)⟩
  ·
    have hne:us≠[]:=by intro z;rw [z] at c;exact absurd c (by decide)
    have hlen:=hus.len
    obtain ⟨us0,u,rfl⟩:=snoc_of hne
    obtain ⟨l0,pc,rfl⟩:=snoc_of (l:=l) (by intro z;rw [z] at hlen;simp at hlen)
    obtain ⟨h0,hu⟩:=hus.snoc
    have hpo0:∀ c∈l0,PcOk c:=fun c hc=>hpo c (by simp [hc])
    have hpc:PcOk pc:=hpo pc (by simp)
    rw [wts_snoc] at hm
    rw [outs_snoc] at hout
    have hl0:=len_le_wts l0
    have hu0:=h0.len
    refine ⟨_,rfl,.inl ⟨rfl,_,SqL.of g2⟩,p2,_,u,rfl,rfl,g2,by simp,?_⟩
    rw [List.dropLast_concat]
    have k4:TSame H3 (upd H3 p2 (HO.lst us0)):=.lst g2
    have x4:upd H3 p2 (HO.lst us0) p2=some _:=upd_same
    have y4:upd H3 p2 (HO.lst us0) p1=some (.lst (xs.map V.str)):=by rw [upd_ne n12];exact g1
    have s4:Same H (upd H3 p2 (HO.lst us0)):=fun b ob z=>by rw [upd_ne (ne_of_none z f2)];exact s3 _ _ z
    generalize upd H3 p2 (HO.lst us0)=H4 at k4 x4 y4 s4 |-
    have h4:=h0.mono k4
    have hxl:(xs.map V.str).length=xs.length:=zLM _
    have put:∀ (D:Ends) (z:Str) (l':List Pc) (us':List V) (H5:Hp),Same H H5->H5 p1=some (.lst (xs.map V.str))->H5 p2=some (.lst us')->PcsAt H5 us' l'->(∀ c∈l',PcOk c)->wts l'<m->flat xs++z.cps.toList++outs l'=t.line ->
        D.nx=(fun σ' H'=>∃ m',m'<m/\∃ (o:Option V) (xs:List Str) (us:List V) (l:List Pc),σ'=[some v,some (.ref p1),some (.ref p2),o]/\Same H H'/\H' p1=some (.lst (xs.map V.str))/\H' p2=some (.lst us)/\PcsAt H' us l/\(∀ c∈l,PcOk c) /\
          wts l=m'/\flat xs++outs l=t.line/\xs.length+m'<=3 * t.nodes) ->
        rAppend (.ref p1) [.str z] H5 (fun _ H1=>D.nx [some v,some (.ref p1),some (.ref p2),some u] H1):=fun D z l' us' H5 s5 e1 e2 hp' ho' hw' hf' hD=>by
      refine ⟨p1,_,_,rfl,rfl,e1,big (by rw [hxl];omega),?_⟩
      rw [hD]
      have k6:TSame H5 (upd H5 p1 (HO.lst (xs.map V.str++[.str z]))):=.lst e1
      refine ⟨wts l',hw',some u,xs++[z],us',l',rfl,fun b ob q'=>by rw [upd_ne (ne_of_none q' hp1)];exact s5 _ _ q',by rw [upd_same,List.map_append];rfl,by rw [upd_ne n12.symm];exact e2,hp'.mono k6,ho',rfl,?_,?_⟩
      · rw [flat_snoc];exact hf'
      · rw [zLA];simp only [zLC,zLN];omega
    cases pc with
    | sg x =>
      cases (show u=V.str x from hu)
      refine ⟨_,rfl,_,_,_,_,rfl,.str _,.ss,_,rfl,iteT ?_⟩
      refine ⟨_,rfl,.inl ⟨rfl,_,SqL.of y4⟩,_,rfl,?_⟩
      exact put _ x l0 us0 H4 s4 y4 x4 h4 hpo0 (by simp only [Pc.wt] at hm;omega) (by simpa [Pc.out,List.append_assoc] using hout) rfl
    | tm t1 =>
      have ht1:TermAt H4 u t1:=TermAt.mono k4 hu
      have n1:=t1.nodes_pos
      have hwt:(Pc.tm t1).wt=3 * t1.nodes - 1:=rfl
      have leafc:∀ a vs,u=.ref a->H4 a=some (.tup vs)->(∀ x ps,t1≠.thing x ps)->vs[0]?≠none->True:=fun _ _ _ _ _ _=>trivial
      cases t1 with
      | thing x ps =>
        obtain ⟨a,b,pv,rfl,e1,e2,e3⟩:=termAt_thing.mp ht1
        simp only [PcOk,Tm.Ok] at hpc
        obtain ⟨hx,hps,hop⟩:=hpc
        have hpl:=e3.len
        have hpn:=len_le_nodes ps
        simp only [Tm.nodes] at hwt
        rw [hwt] at hm
        obtain ⟨t0,ts,rfl⟩:∃ t0 ts,ps=t0::ts:=by
          cases ps with
          | nil=>exact absurd rfl hps
          | cons t0 ts=>exact ⟨t0,ts,rfl⟩
        refine ⟨_,rfl,_,_,_,_,rfl,.tup e1,.ts,_,rfl,iteF ?_⟩
        refine ⟨_,rfl,_,_,_,_,rfl,rfl,SqT.of e1,rfl,rfl,_,rfl,ite_t (by decide +kernel) ?_⟩
        have hxb:x.length+(Str.ofString "(").length<=sizeLine:=by
          rw [len_cps,len_cps,open_cps];have:=hx.2.1;exact small (by simp only [zLC,zLN];omega)
        refine ⟨_,rfl,.inl ⟨rfl,_,SqL.of y4⟩,_,rfl,_,_,_,_,rfl,rfl,SqT.of e1,rfl,_,_,rfl,rfl,hxb,p1,_,_,rfl,rfl,y4,big (by rw [hxl];omega),?_⟩
        have k6:TSame H4 (upd H4 p1 (HO.lst (xs.map V.str++[.str (x++"(")]))):=.lst y4
        have x6:upd H4 p1 (HO.lst (xs.map V.str++[.str (x++"(")])) p1=some _:=upd_same
        have y6:upd H4 p1 (HO.lst (xs.map V.str++[.str (x++"(")])) p2=some (.lst us0):=by rw [upd_ne n12.symm];exact x4
        have s6:Same H (upd H4 p1 (HO.lst (xs.map V.str++[.str (x++"(")]))):=fun b ob z=>by rw [upd_ne (ne_of_none z hp1)];exact s4 _ _ z
        generalize upd H4 p1 (HO.lst (xs.map V.str++[.str (x++"(")]))=H6 at k6 x6 y6 s6 |-
        refine ⟨_,rfl,_,rfl,_,_,_,_,rfl,rfl,SqT.of (k6 _ _ e1),rfl,p2,b,us0,pv,t0,ts,rfl,y6,k6 _ _ e2,e3.mono k6,by omega,fun ws H7 kp x7 hw=>?_⟩
        have k7:TSame H6 H7:=fun c zs e=>kp _ _ e (ne_of e y6 (by intro z;cases z))
        have w7:=wts_pushed t0 ts
        refine ⟨wts (l0++pushed t0 ts),?_,_,xs++[x++"("],us0++ws,l0++pushed t0 ts,rfl,fun c ob z=>kp _ _ (s6 _ _ z) (ne_of_none z f2),?_,x7,PcsAt.app ((h4.mono k6).mono k7) hw,?_,rfl,?_,?_⟩
        · rw [wts_append,w7];omega
        · rw [List.map_append];exact kp _ _ x6 n12
        · intro c hc
          rcases List.mem_append.mp hc with hc | hc
          · exact hpo0 c hc
          · exact pushed_ok hop c hc
        · rw [flat_snoc,outs_append,outs_pushed,cps_append,open_cps]
          have e:(Pc.tm (Tm.thing x (t0::ts))).out=x.cps.toList++40::(lineL (t0::ts)++[41]):=by simp only [Pc.out,Tm.line]
          rw [e] at hout
          simpa [List.append_assoc] using hout
        · rw [zLA,wts_append,w7];simp only [zLC,zLN];omega
      | num n =>
        obtain ⟨a,rfl,e1⟩:=termAt_num.mp ht1
        refine ⟨_,rfl,_,_,_,_,rfl,.tup e1,.ts,_,rfl,iteF ?_⟩
        refine ⟨_,rfl,_,_,_,_,rfl,rfl,SqT.of e1,rfl,rfl,_,rfl,ite_f (by decide +kernel) ?_⟩
        refine ⟨_,rfl,.inl ⟨rfl,_,SqL.of y4⟩,_,rfl,_,_,rfl,ht1,hpc,(fun _ _ z=>nomatch z),fun z hz=>?_⟩
        exact put _ z l0 us0 H4 s4 y4 x4 h4 hpo0 (by rw [hwt] at hm;simp only [Tm.nodes] at hm;omega) (by rw [hz];simpa [Pc.out,List.append_assoc] using hout) rfl
      | name n =>
        obtain ⟨a,rfl,e1⟩:=termAt_name.mp ht1
        refine ⟨_,rfl,_,_,_,_,rfl,.tup e1,.ts,_,rfl,iteF ?_⟩
        refine ⟨_,rfl,_,_,_,_,rfl,rfl,SqT.of e1,rfl,rfl,_,rfl,ite_f (by decide +kernel) ?_⟩
        refine ⟨_,rfl,.inl ⟨rfl,_,SqL.of y4⟩,_,rfl,_,_,rfl,ht1,hpc,(fun _ _ z=>nomatch z),fun z hz=>?_⟩
        exact put _ z l0 us0 H4 s4 y4 x4 h4 hpo0 (by rw [hwt] at hm;simp only [Tm.nodes] at hm;omega) (by rw [hz];simpa [Pc.out,List.append_assoc] using hout) rfl
      | blank n =>
        obtain ⟨a,rfl,e1⟩:=termAt_blank.mp ht1
        refine ⟨_,rfl,_,_,_,_,rfl,.tup e1,.ts,_,rfl,iteF ?_⟩
        refine ⟨_,rfl,_,_,_,_,rfl,rfl,SqT.of e1,rfl,rfl,_,rfl,ite_f (by decide +kernel) ?_⟩
        refine ⟨_,rfl,.inl ⟨rfl,_,SqL.of y4⟩,_,rfl,_,_,rfl,ht1,hpc,(fun _ _ z=>nomatch z),fun z hz=>?_⟩
        exact put _ z l0 us0 H4 s4 y4 x4 h4 hpo0 (by rw [hwt] at hm;simp only [Tm.nodes] at hm;omega) (by rw [hz];simpa [Pc.out,List.append_assoc] using hout) rfl
  · have hnil:us=[]:=by
      cases us with
      | nil=>rfl
      | cons a r=>exact absurd rfl c
    subst hnil
    have hl0:l=[]:=by
      have:=hus.len
      exact List.length_eq_zero_iff.mp this.symm
    subst hl0
    have hfl:flat xs=t.line:=by simpa [outs] using hout
    refine ⟨rfl,_,rfl,p1,xs,rfl,rfl,g1,?_,?_⟩
    · rw [<- flat_len,hfl];omega
    · exact q _ _ s3 (by rw [join_flat,hfl])
end
end K08
namespace BF
open PySem PySem.Spec PyProof.Rows L2
open Sem (wp)
section
variable {prog:Program}{w:World}{A:Around}{E:Value->Shared->Prop}{s:Shared}{z TI TO i1 i2 a b e:Addr}{k:Nat}{xs ys:Array Value}{x y old:Value}
structure ENext (s:Shared) (e z TI TO i1 i2 a b:Addr) (k:Nat) (x y:Value) (h':Heap):Prop where
  en:IsEnumOut h' e z ((k:Int)+1) (.ref s.heap.objs.size) (s.heap.objs.size+1)
  zz:ZAt h' z TI TO i1 i2 a b (k+1)
  pr:IsPair h' s.heap.objs.size x y
  tp:h'.get? (s.heap.objs.size+1)=some { cls:=.type "tuple",data:=.seq #[.int k s.toks,.ref s.heap.objs.size] }
  kp:∀ c o,c∉[e,z,TI,TO,i1,i2]->s.heap.get? c=some o->h'.get? c=some o
theorem en_next {Q:Value->Shared->Prop}(D:ZipApart z TI TO i1 i2 a b) (he:IsEnum s.heap e z k old) (hne:e∉[z,TI,TO,i1,i2]) (hz:ZAt s.heap z TI TO i1 i2 a b k) (t1:IsTup s.heap a xs) (t2:IsTup s.heap b ys) (hx:xs[k]?=some x) (hy:ys[k]?=some y)
    (hQ:∀ h',ENext s e z TI TO i1 i2 a b k x y h'->Q (.ref (s.heap.objs.size+1)) { s with heap:=h',toks:=s.toks+1 }) :
    wpAny (model prog w) A (Builtin.«enumerate.__next__» ⟨[.ref e],[]⟩) (fun fin s'=>∃ v,fin=.done (.ret v)/\Q v s') E s:=by
  obtain ⟨hp,g,d,tk,os⟩:=s
  simp only [List.mem_cons,List.not_mem_nil,or_false,not_or] at hne
  obtain ⟨n1,n2,n3,n4,n5⟩:=hne
  have hel:e<hp.objs.size:=Heap.lt_size he
  show wpAny _ _ (field (Value.ref e) 2 >>= _) _ _ _
  refine wpAny_bind (wpAny_field he rfl (x:=Value.ref z) rfl (wpAny_bind (z_draw D hz t1 t2 hx hy fun g1 q1=>?_)))
  obtain ⟨zz1,pr1,sz1,kp1⟩:=q1
  have pr1:IsPair g1 hp.objs.size x y:=pr1
  have sz1:g1.objs.size=hp.objs.size+1:=sz1
  have kp1:∀ c o,c≠z->c≠TO->c≠i1->c≠i2->hp.get? c=some o->g1.get? c=some o:=kp1
  have e1:IsEnum g1 e z k old:=kp1 _ _ n1 n3 n4 n5 he
  have base:∀ c∈[z,TI,TO,i1,i2],c≠e:=fun c hc y=>by
    subst y
    simp only [List.mem_cons,List.not_mem_nil,or_false] at hc
    rcases hc with y | y | y | y | y <;> contradiction
  show wpAny _ _ (field (Value.ref e) 3 >>= _) _ _ ⟨g1,g,d,tk,os⟩
  refine wpAny_bind (wpAny_field e1 rfl (x:=rawInt k) rfl ?_)
  show wpAny _ _ (field (Value.ref e) 4 >>= _) _ _ ⟨g1,g,d,tk,os⟩
  refine wpAny_bind (wpAny_field e1 rfl (x:=Value.none) rfl ?_)
  show wpAny _ _ (mkInt k >>= _) _ _ ⟨g1,g,d,tk,os⟩
  refine wpAny_bind (wpAny_mkInt ?_)
  show wpAny _ _ (setField (Value.ref e) 3 (rawInt ((k:Int)+1)) >>= _) _ _ ⟨g1,g,d,tk+1,os⟩
  refine wpAny_bind (wpAny_setField_rec e1 (by simp) fun g2 e2 s2=>?_)
  replace s2:Heap.SameBut e g1 g2:=s2
  replace e2:IsEnum g2 e z ((k:Int)+1) old:=e2
  show wpAny _ _ (setField (Value.ref e) 4 Value.none >>= _) _ _ ⟨g2,g,d,tk+1,os⟩
  refine wpAny_bind (wpAny_setField_rec e2 (by simp) fun g3 e3 s3=>?_)
  replace s3:Heap.SameBut e g2 g3:=s3
  replace e3:IsEnum g3 e z ((k:Int)+1) old:=e3
  show wpAny _ _ (newTuple [Value.int k tk,Value.ref hp.objs.size] >>= _) _ _ ⟨g3,g,d,tk+1,os⟩
  refine wpAny_bind (wpAny_newTuple ?_)
  have sz3:g3.objs.size=hp.objs.size+1:=by rw [s3.1,s2.1,sz1]
  have up3:∀ c o,c≠e->g1.get? c=some o->g3.get? c=some o:=fun c o hc q=>s3.extBut _ _ hc (s2.extBut _ _ hc q)
  have e4:IsEnum (g3.push { cls:=.type "tuple",data:=.seq #[.int k tk,.ref hp.objs.size] }) e z ((k:Int)+1) old:=Heap.get?_push_of_some _ e3
  have t4:(g3.push { cls:=.type "tuple",data:=.seq #[.int k tk,.ref hp.objs.size] }).get? (hp.objs.size+1)=some { cls:=.type "tuple",data:=.seq #[.int k tk,.ref hp.objs.size] }:=by rw [<- sz3];exact Heap.get?_push_size _ rfl
  have up4:∀ c o,c≠e->g1.get? c=some o->(g3.push { cls:=.type "tuple",data:=.seq #[.int k tk,.ref hp.objs.size] }).get? c=some o:=fun c o hc q=>Heap.get?_push_of_some _ (up3 c o hc q)
  show wpAny _ _ (Builtin.SmallTypes.ownedTupleIsFree (Value.ref e) >>= _) _ _ ⟨g3.push { cls:=.type "tuple",data:=.seq #[.int k tk,.ref hp.objs.size] },g,d,tk+1,os⟩
  rw [sz3]
  generalize g3.push { cls:=.type "tuple",data:=.seq #[.int k tk,.ref hp.objs.size] }=g4 at e4 t4 up4
  refine wpAny_bind ?_
  unfold Builtin.SmallTypes.ownedTupleIsFree
  refine wpAny_bind (wpAny_field e4 rfl (x:=Value.none) rfl (wpAny_pure ?_))
  simp only [if_true]
  refine wpAny_bind (wpAny_rule (wpAny_bind (wpAny_field e4 rfl (x:=old) rfl ?_)))
  refine wpAny_bind (wpAny_setField_rec e4 (by simp) fun g5 e5 s5=>?_)
  replace s5:Heap.SameBut e g4 g5:=s5
  replace e5:IsEnum g5 e z ((k:Int)+1) (.ref hp.objs.size):=e5
  show wpAny _ _ (Builtin.SmallTypes.ownedTupleHandOut (Value.ref e) (Value.ref (hp.objs.size+1)) >>= _) _ _ ⟨g5,g,d,tk+1,os⟩
  refine wpAny_bind ?_
  unfold Builtin.SmallTypes.ownedTupleHandOut
  refine wpAny_bind (wpAny_setField_rec e5 (by simp) fun g6 e6 s6=>?_)
  replace s6:Heap.SameBut e g5 g6:=s6
  replace e6:IsEnumOut g6 e z ((k:Int)+1) (.ref hp.objs.size) (hp.objs.size+1):=e6
  refine wpAny_setField_rec e6 (by simp) fun g7 e7 s7=>?_
  replace s7:Heap.SameBut e g6 g7:=s7
  replace e7:IsEnumOut g7 e z ((k:Int)+1) (.ref hp.objs.size) (hp.objs.size+1):=e7
  have up7:∀ c o,c≠e->g4.get? c=some o->g7.get? c=some o:=fun c o hc q=>s7.extBut _ _ hc (s6.extBut _ _ hc (s5.extBut _ _ hc q))
  refine wpAny_bind (wpAny_letGo (wpAny_pure ⟨_,rfl,hQ g7 ⟨e7,?_,?_,?_,?_⟩⟩))
  · exact zz1.keep fun c hc o q=>up7 c o (base c hc) (up4 c o (base c hc) q)
  · exact up7 _ _ (Nat.ne_of_gt hel) (up4 _ _ (Nat.ne_of_gt hel) pr1)
  · exact up7 _ _ (by have:e<hp.objs.size+1:=Nat.lt_succ_of_lt hel;exact Nat.ne_of_gt this) t4
  · intro c o hc q
    simp only [List.mem_cons,List.not_mem_nil,or_false,not_or] at hc
    exact up7 c o hc.1 (up4 c o hc.1 (kp1 c o hc.2.1 hc.2.2.2.1 hc.2.2.2.2.1 hc.2.2.2.2.2 q))
theorem en_pn {Q:Option Value->Shared->Prop}(D:ZipApart z TI TO i1 i2 a b) (he:IsEnum s.heap e z k old) (hne:e∉[z,TI,TO,i1,i2]) (hz:ZAt s.heap z TI TO i1 i2 a b k) (t1:IsTup s.heap a xs) (t2:IsTup s.heap b ys) (hx:xs[k]?=some x) (hy:ys[k]?=some y)
    (hQ:∀ h',ENext s e z TI TO i1 i2 a b k x y h'->Q (some (.ref (s.heap.objs.size+1))) { s with heap:=h',toks:=s.toks+1 }):wpAny (model prog w) A (pyNext (.ref e)) Q E s:=by
  have hT:s.TypeIs (.ref e) "enumerate":=⟨_,he,rfl⟩
  unfold pyNext
  exact wpAny_bind (wpAny_attempt (wpAny_callSpecial?_slot (name:=Str.ofString "__next__") hT F.slot_enumerate_next (wpAny_call_entry F.slot_enumerate_next hT F.entry_enumerate_next (en_next D he hne hz t1 t2 hx hy fun h' q=>wpAny_pure (hQ h' q)) (F.args_enumerate_next_1 _))))
theorem en_pnone {Q:Option Value->Shared->Prop}(hh:A.handled=none) (D:ZipApart z TI TO i1 i2 a b) (he:IsEnum s.heap e z k old) (hz:ZAt s.heap z TI TO i1 i2 a b k) (t1:IsTup s.heap a xs) (hx:xs[k]?=none)
    (hQ:∀ h',(∀ c o,c≠z->c≠i1->s.heap.get? c=some o->h'.get? c=some o)->Q none { s with heap:=h' }):wpAny (model prog w) A (pyNext (.ref e)) Q E s:=by
  have hT:s.TypeIs (.ref e) "enumerate":=⟨_,he,rfl⟩
  unfold pyNext
  refine wpAny_bind (wpAny_attempt (wpAny_callSpecial?_slot (name:=Str.ofString "__next__") hT F.slot_enumerate_next (wpAny_call_entry F.slot_enumerate_next hT F.entry_enumerate_next ?_ (F.args_enumerate_next_1 _))))
  show wpAny _ _ (field (Value.ref e) 2 >>= _) _ _ _
  refine wpAny_bind (wpAny_field he rfl (x:=Value.ref z) rfl (wpAny_bind (z_drawn hh D hz t1 hx fun h' x hk hx'=>?_)))
  obtain ⟨o,ho,hc⟩:=hx'
  exact wpAny_bind (wpAny_isInstance (T:="StopIteration") (b:=true) ⟨o,ho,hc⟩ isSubtype_stop (wpAny_pure (hQ _ hk)))
end
abbrev enObj (z:Addr):Obj:={ cls:=.type "enumerate",data:=.fields #[.none,.bool false,.ref z,rawInt 0,.none,.none] }
theorem meets_en (z TI TO i1 i2 a b:Addr) :
    Meets (Builtin.«enumerate.__new__» ⟨[.type "enumerate",.ref z],[]⟩) (fun _ R s=>ZAt s.heap z TI TO i1 i2 a b 0/\R (.ok (.ret (.ref s.heap.objs.size))) { s with heap:=s.heap.push (enObj z) }) :=
  .of_wp fun prog w A R s h=>by
    obtain ⟨hp,g,d,tk,os⟩:=s;obtain ⟨hz,h⟩:=h
    have hsub:=sub_enumerate
    have hZ:ZAt (Shared.heap ⟨hp,g,d,tk,os⟩) z TI TO i1 i2 a b 0:=hz
    wp_walk
    refine wpAny_stack_any fun st=>wpAny_pure ?_
    split
    · rename_i c _ _ _ _ _
      cases (c==Value.type "enumerate")
      · wp_walk using z_self hZ
        exact ⟨_,rfl,h⟩
      · wp_walk using z_self hZ
        exact ⟨_,rfl,h⟩
    · wp_walk using z_self hZ
      exact ⟨_,rfl,h⟩
theorem call_en {prog:Program}{w:World}{A:Around}{E:Value->Shared->Prop}{s:Shared}{z TI TO i1 i2 a b:Addr}{Q:Value->Shared->Prop}(hz:ZAt s.heap z TI TO i1 i2 a b 0) (h:Q (.ref s.heap.objs.size) { s with heap:=s.heap.push (enObj z) }) :
    wpAny (model prog w) A (call (.type "enumerate") [.ref z]) Q E s:=by
  refine callType_new F.called_enumerate (by decide) (F.typeCall_enumerate_1 _) (F.newCall_enumerate_1 _) (fun obj=>F.args_object_init_2 obj _) F.entry_enumerate_new (meets_en z TI TO i1 i2 a b) ⟨hz,?_⟩
  exact ⟨⟨_,Heap.get?_push_size _ rfl,rfl⟩,h⟩
end BF
namespace BF
open PySem PySem.Spec PyProof.Rows L2
open Sem (wp)
theorem bt_enumerate:bootBuiltins "enumerate"=some (.type "enumerate"):=by decide +kernel
def Ite (a b:Addr) (xs ys:List V):It :=
  ⟨fun i H=>H a=some (.tup xs)/\H b=some (.tup ys)/\i<xs.length/\i<ys.length,
    fun i H x H'=>∃ p q u v,H p=none/\upd H p (.tup [u,v]) q=none/\x=.ref q/\xs[i]?=some u/\ys[i]?=some v/\H'=upd (upd H p (.tup [u,v])) q (.tup [.int (i:Nat),.ref p]),
    fun i H=>H a=some (.tup xs)/\xs.length<=i⟩
theorem turn_ez {P:Program}{w:World}{K:PySem.W.Frag}{elts:List Expr}{ek} {epos:Pos}(e z TI TO i1 i2 a b:Addr) (xs ys:List V) (D:ZipApart z TI TO i1 i2 a b) (hne:e∉[z,TI,TO,i1,i2]) :
    Turn P w K (.Tuple elts ek epos) (Ite a b xs ys) [e,z,TI,TO,i1,i2] e (fun i h=>(∃ old,IsEnum h e z i old)/\ZAt h z TI TO i1 i2 a b i) where
  mem:=by simp
  obj := fun i h st c hc=>by
    obtain ⟨⟨old,he⟩,hz⟩:=st
    simp only [List.mem_cons,List.not_mem_nil,or_false] at hc
    rcases hc with rfl | rfl | rfl | rfl | rfl | rfl
    · exact ⟨_,he,fun v e=>by cases e⟩
    · obtain ⟨_,_,_,g⟩:=hz.z
      exact ⟨_,g,fun v e=>by cases e⟩
    · exact ⟨_,hz.ti,fun v e=>by cases e⟩
    · obtain ⟨_,_,g⟩:=hz.to
      exact ⟨_,g,fun v e=>by cases e⟩
    · obtain ⟨_,g,_,d⟩:=hz.i1
      exact ⟨_,g,fun v e=>by rw [d] at e;cases e⟩
    · obtain ⟨_,g,_,d⟩:=hz.i2
      exact ⟨_,g,fun v e=>by rw [d] at e;cases e⟩
  keep:=fun i h h' st k=>by
    obtain ⟨⟨old,he⟩,hz⟩:=st
    exact ⟨⟨old,k e (by simp) _ he⟩,hz.keep fun c hc o q=>k c (by simp only [List.mem_cons] at hc |-;exact .inr hc) o q⟩
  item := by
    intro X hP hw hK hc i pins s σ H E I hf st hg
    subst hP hw hK
    obtain ⟨ha,hb,hi1,hi2⟩:=hg
    obtain ⟨⟨old,he⟩,hz⟩:=st
    obtain ⟨its1,rv1,p1,_⟩:=I.tuple (SqT.of ha)
    obtain ⟨its2,rv2,p2,_⟩:=I.tuple (SqT.of hb)
    have hx:xs[i]?=some xs[i]:=List.getElem?_eq_getElem hi1
    have hy:ys[i]?=some ys[i]:=List.getElem?_eq_getElem hi2
    obtain ⟨u,hu,ru⟩:=rv1.get hx
    obtain ⟨v,hv,rv⟩:=rv2.get hy
    refine en_pn D he hne hz p1 p2 (x:=u) (y:=v) (by simpa using hu) (by simpa using hv) fun h' q=>?_
    have lt:∀ c∈[e,z,TI,TO,i1,i2],c<s.heap.objs.size:=fun c hc=>by
      simp only [List.mem_cons,List.not_mem_nil,or_false] at hc
      rcases hc with rfl | rfl | rfl | rfl | rfl | rfl
      · exact Heap.lt_size he
      · exact let ⟨_,_,_,g⟩:=hz.z;Heap.lt_size g
      · exact Heap.lt_size hz.ti
      · exact let ⟨_,_,g⟩:=hz.to;Heap.lt_size g
      · exact let ⟨_,g,_⟩:=hz.i1;Heap.lt_size g
      · exact let ⟨_,g,_⟩:=hz.i2;Heap.lt_size g
    have hfr:H s.heap.objs.size=none:=I.fresh
    have J:Inv X pins σ (upd H s.heap.objs.size (.tup [xs[i],ys[i]])) { s with heap:=s.heap.push { cls:=.type "tuple",data:=.seq #[u,v] },toks:=s.toks+1 } :=
      I.laid (t':=s.toks+1) (fun b u e=>Heap.get?_push_of_some _ e) (Nat.le_refl _) ⟨by show 2<=sizeLine;decide,[u,v],.cons ru (.cons rv .nil),⟨_,Heap.get?_push_size _ rfl,rfl,_,rfl⟩⟩
    have sz1:(s.heap.push { cls:=.type "tuple",data:=.seq #[u,v] }).objs.size=s.heap.objs.size+1:=Heap.size_push ..
    have hfr2:upd H s.heap.objs.size (.tup [xs[i],ys[i]]) (s.heap.objs.size+1)=none:=by
      have:=J.fresh
      simp only [sz1] at this
      exact this
    have J2:Inv X pins σ (upd (upd H s.heap.objs.size (.tup [xs[i],ys[i]])) (s.heap.objs.size+1) (.tup [.int (i:Nat),.ref s.heap.objs.size])) { s with heap:=(s.heap.push { cls:=.type "tuple",data:=.seq #[u,v] }).push { cls:=.type "tuple",data:=.seq #[.int i s.toks,.ref s.heap.objs.size] },toks:=s.toks+1 } :=
      J.laid (t':=s.toks+1) (fun b u e=>Heap.get?_push_of_some _ e) (Nat.le_of_eq sz1) ⟨by show 2<=sizeLine;decide,[.int i s.toks,.ref s.heap.objs.size],.cons ⟨_,rfl⟩ (.cons rfl .nil),⟨_,by rw [<- sz1];exact Heap.get?_push_size _ rfl,rfl,_,rfl⟩⟩
    have hf':∀ c∈[e,z,TI,TO,i1,i2],FpOk X pins (upd (upd H s.heap.objs.size (.tup [xs[i],ys[i]])) (s.heap.objs.size+1) (.tup [.int (i:Nat),.ref s.heap.objs.size])) c:=fun c hc=>by
      have:=lt c hc
      refine ⟨?_,(hf c hc).2⟩
      rw [upd_ne (Nat.ne_of_lt (Nat.lt_succ_of_lt this)),upd_ne (Nat.ne_of_lt this)]
      exact (hf c hc).1
    refine ⟨_,rfl,wpAny_letOwnedTupleGo_enum q.en fun h'' he'' hs''=>?_⟩
    have nin:∀ c,s.heap.objs.size<=c->c≠e:=fun c hc y=>by have:=lt e (by simp);subst y;exact absurd this (Nat.not_lt.mpr hc)
    have J3:Inv X pins σ (upd (upd H s.heap.objs.size (.tup [xs[i],ys[i]])) (s.heap.objs.size+1) (.tup [.int (i:Nat),.ref s.heap.objs.size])) { s with heap:=h'',toks:=s.toks+1 }:=by
      refine L2.Inv.turnedL (s:={ s with heap:=(s.heap.push { cls:=.type "tuple",data:=.seq #[u,v] }).push { cls:=.type "tuple",data:=.seq #[.int i s.toks,.ref s.heap.objs.size] },toks:=s.toks+1 }) (t':=s.toks+1) (ch:=[e,z,TI,TO,i1,i2]) J2 (fun c o hc g=>?_) hf'
      have hce:c≠e:=fun y=>hc (by simp [y])
      refine (hs''.2 c hce).trans ?_
      by_cases e2:c=s.heap.objs.size+1
      · subst e2
        have g':((s.heap.push { cls:=.type "tuple",data:=.seq #[u,v] }).push { cls:=.type "tuple",data:=.seq #[.int i s.toks,.ref s.heap.objs.size] }).get? (s.heap.push { cls:=.type "tuple",data:=.seq #[u,v] }).objs.size=some o:=by rw [sz1];exact g
        rw [Heap.get?_push_size _ rfl] at g'
        cases g'
        exact q.tp
      · have g1:(s.heap.push { cls:=.type "tuple",data:=.seq #[u,v] }).get? c=some o:=by
          rw [Heap.get?_push_ne _ _ _ (by rw [sz1];exact e2)] at g
          exact g
        by_cases e1:c=s.heap.objs.size
        · subst e1
          rw [Heap.get?_push_size _ rfl] at g1
          cases g1
          exact q.pr
        · rw [Heap.get?_push_ne _ _ _ e1] at g1
          exact q.kp c o hc g1
    refine ⟨.ref (s.heap.objs.size+1),_,J3,rfl,⟨s.heap.objs.size,s.heap.objs.size+1,xs[i],ys[i],hfr,hfr2,rfl,hx,hy,rfl⟩,⟨⟨_,he''⟩,?_⟩,fun c hc=>(hf' c hc).1⟩
    exact q.zz.keep fun c hc o g=>(hs''.2 c (fun y=>hne (y▸hc))).trans g
  done:=by
    intro X hP hw hK hc i pins s σ H E I hf st hg
    subst hP hw hK
    obtain ⟨ha,hi⟩:=hg
    obtain ⟨⟨old,he⟩,hz⟩:=st
    obtain ⟨its1,rv1,p1,_⟩:=I.tuple (SqT.of ha)
    have l1:=rv1.length
    refine en_pnone (I.ok.hd hc) D he hz p1 (by simp;omega) fun h' k=>⟨rfl,L2.Inv.turnedL (t':=s.toks) (ch:=[e,z,TI,TO,i1,i2]) I (fun c o hc g=>?_) hf⟩
    simp only [List.mem_cons,List.not_mem_nil,or_false,not_or] at hc
    exact k c o hc.2.1 hc.2.2.2.2.1 g
  self:=fun _ _ _ _ _ st h=>let ⟨_,he⟩:=st.1;wpAny_pyIter_enum he h
section
variable {X:Cx}{elts:List Expr}{epos:Pos}
def iEZ (ta:TA):TI:=fun σ H R=>ta σ H fun vs H1=>∃ a b xs ys,vs=[.ref a,.ref b]/\H1 a=some (.tup xs)/\H1 b=some (.tup ys)/\R (Ite a b xs ys) H1
theorem pi_enumzip {a b:Expr}{ek} {ta:TA}{p p' pos pos':Pos}(hg:Gl X "enumerate") (hm:X.mg "enumerate"=none) (hg':Gl X "zip") (hm':X.mg "zip"=none) (ha:PA X [a,b] ta)
    (h1:starEach [.Call (.Name "zip" p') [a,b] [] pos'] X.env=[(false,eval (.Call (.Name "zip" p') [a,b] [] pos') X.env)]:=by rfl) (hs:starEach [a,b] X.env=[(false,eval a X.env),(false,eval b X.env)]:=by rfl) (hs2:starEach [b] X.env=[(false,eval b X.env)]:=by rfl) :
    PI X (.Tuple elts ek epos) (.Call (.Name "enumerate" p) [.Call (.Name "zip" p') [a,b] [] pos'] [] pos) (iEZ ta):=by
  intro pins s σ H R I h
  refine Call_ (ld_blt I hg hm bt_enumerate (PyProof.Rows.callWith_type1 ?_ h1 rfl))
  rw [h1]
  refine Calls.spliced_cons ?_
  refine Call_ (ld_blt I hg' hm' bt_zip (PyProof.Rows.callWith_type1 (thn (ha pos' pins s σ H _ I h) fun us s1 ⟨vs,H1,I1,r1,q1⟩=>?_) (by rw [hs,hs2]) (by rw [hs2];rfl)))
  obtain ⟨l1,l2,xs,ys,e,ha,hb,q⟩:=q1
  subst e
  obtain ⟨u,u',rfl,ru,ru'⟩:=vals2 r1
  cases ru
  cases ru'
  obtain ⟨its1,rv1,p1,_⟩:=I1.tuple (SqT.of ha)
  obtain ⟨its2,rv2,p2,_⟩:=I1.tuple (SqT.of hb)
  have lt1:@LT.lt Nat _ l1 s1.heap.objs.size:=let ⟨o,ho,_⟩:=p1;Heap.lt_size ho
  have lt2:@LT.lt Nat _ l2 s1.heap.objs.size:=let ⟨o,ho,_⟩:=p2;Heap.lt_size ho
  refine call_zt p1 p2 (Calls.spliced_nil ?_)
  obtain ⟨z5,z4,zz,zk⟩:=zt_all s1.heap l1 l2
  have I2:Inv X pins σ H1 { s1 with heap:=zt5 s1.heap l1 l2 }:=I1.kept (t':=s1.toks) zk
  refine call_en (s:={ s1 with heap:=zt5 s1.heap l1 l2 }) zz ?_
  have I3:Inv X pins σ H1 { s1 with heap:=(zt5 s1.heap l1 l2).push (enObj (s1.heap.objs.size+4)) }:=I2.kept (t':=s1.toks) fun c o g=>Heap.get?_push_of_some _ g
  have gE:((zt5 s1.heap l1 l2).push (enObj (s1.heap.objs.size+4))).get? (s1.heap.objs.size+5)=some (enObj (s1.heap.objs.size+4)):=by rw [<- z5];exact Heap.get?_push_size _ rfl
  show wpAny _ _ (pyIter (Value.ref (zt5 s1.heap l1 l2).objs.size)) _ _ _
  rw [z5]
  refine wpAny_pyIter_enum (s:={ s1 with heap:=(zt5 s1.heap l1 l2).push (enObj (s1.heap.objs.size+4)) }) gE ?_
  refine ⟨s1.heap.objs.size+5,[s1.heap.objs.size+5,s1.heap.objs.size+4,s1.heap.objs.size+2,s1.heap.objs.size+3,s1.heap.objs.size,s1.heap.objs.size+1],_,_,H1,rfl,I3,turn_ez (s1.heap.objs.size+5) (s1.heap.objs.size+4) (s1.heap.objs.size+2) (s1.heap.objs.size+3) s1.heap.objs.size (s1.heap.objs.size+1) l1 l2 xs ys (zt_apart lt1 lt2) ?_,⟨⟨_,gE⟩,zz.keep fun c _ o g=>Heap.get?_push_of_some _ g⟩,fun c hc=>?_,q⟩
  · generalize s1.heap.objs.size=n
    intro y
    simp only [List.mem_cons,List.not_mem_nil,or_false] at y
    rcases y with y | y | y | y | y <;> (have y':(n:Nat)+5=_:=y;omega)
  · have hc':s1.heap.objs.size<=c:=by
      simp only [List.mem_cons,List.not_mem_nil,or_false] at hc
      rcases hc with rfl | rfl | rfl | rfl | rfl | rfl <;> first | exact Nat.le_refl _ | exact Nat.le_add_right _ _
    exact I1.fpOk hc' (I1.hok.fresh hc')
end
theorem for_ez {a b:Addr}{xs ys:List V}{g:TG}{tb:TS}{D:Ends}{σ:L2.St}{H:Hp}(n:Nat) (h1:xs.length=n) (h2:ys.length=n) (Pv:Nat->L2.St->Hp->Prop) (h0:Pv 0 σ H) (hl:∀ i σ H,i<=n->Pv i σ H->H a=some (.tup xs)/\H b=some (.tup ys))
    (hs:∀ i x y p q σ H,xs[i]?=some x->ys[i]?=some y->Pv i σ H->H p=none->upd H p (.tup [x,y]) q=none->g (.ref q) σ (upd (upd H p (.tup [x,y])) q (.tup [.int (i:Nat),.ref p])) fun σ2 H2=>tb { D with nx:=Pv (i+1),ct:=Pv (i+1),bk:=D.nx } σ2 H2) (hd:∀ σ H,Pv n σ H->D.nx σ H) :
    ∃ W:Nat->Nat->L2.St->Hp->Prop,(∃ m,W 0 m σ H)/\∀ i m σ H,W i m σ H ->
      ((Ite a b xs ys).stop i H/\D.nx σ H)\/((Ite a b xs ys).go i H/\∃ N:L2.St->Hp->Prop,(∀ σ' H',N σ' H'->∃ m',m'<m/\W (i+1) m' σ' H')/\∀ x H',(Ite a b xs ys).yld i H x H'->g x σ H' fun σ2 H2=>tb { D with nx:=N,ct:=N,bk:=D.nx } σ2 H2):=by
  refine ⟨fun i m σ H=>m=n - i/\i<=n/\Pv i σ H,⟨n,by simp,Nat.zero_le _,h0⟩,?_⟩
  rintro i m σ H ⟨rfl,hi,p⟩
  obtain ⟨q1,q2⟩:=hl i σ H hi p
  by_cases c:i=n
  · subst c
    exact .inl ⟨⟨q1,by omega⟩,hd σ H p⟩
  · refine .inr ⟨⟨q1,q2,by omega,by omega⟩,Pv (i+1),fun σ' H' k=>⟨n - (i+1),by omega,rfl,by omega,k⟩,?_⟩
    rintro x H' ⟨p',q',u,v,hp',hq',rfl,hu,hv,rfl⟩
    exact hs i u v p' q' σ H hu hv p hp' hq'
end BF
namespace K08
open PySem L2 BF
structure RG (K:PySem.W.Frag) (C:Addr):Prop where
  cl:Cls K C
  nl:NoAttr K C "lines"
  no:NoAttr K C "onward"
  nc:NoAttr K C "clash"
section
variable {P:Program}{w:World}{K:PySem.W.Frag}{mg:Str->Option Value}{base:Heap}{C:Addr}
def spRkInit (C:Addr):Sp:=fun vs H Q _=>∃ (p dx:Addr) (v1 v2:V) (g:Ln),vs=[.ref p,v1,v2]/\H p=some (.ins C dx [])/\TermAt H v1 g.1/\TermAt H v2 g.2/\g.1.Ok/\g.2.Ok/\g.1.nodes<=90/\g.2.nodes<=90 /\
  ∀ (L O:Addr) (H':Hp),H L=none->H O=none->(∀ b o,H b=some o->b≠p->H' b=some o)->RK C p dx L O g (parts2 g) H' [(g,.giv)] (fun _=>none) .non 1->Q .non H'
theorem ok_rk_init {f:Addr}{fd:FuncData}(F:Fun K "__init__" "Reckoning.__init__" s_Reckoning_init f fd) (R:RG K C):FnOk P w K mg base CX0 1 f fd ["self","one","other"] (spRkInit C):=by
  refine F.ok sc_Reckoning_init (fun vs H Q E h=>?_) (fun cdv A outer s H vs Q E hr h=>?_)
  · obtain ⟨_,_,_,_,_,rfl,_⟩:=h
    rfl
  obtain ⟨p,dx,v1,v2,g,rfl,hp,h1,h2,ho1,ho2,hn1,hn2,q⟩:=h
  refine ⟨_,(pss_cons (ps_fld (pv 0) (pe_lst (pa_cons (pe_tup (pa_cons (pv 1) (pa_cons (pv 2) (pa_cons (pe_tup (pa_cons pe_str pa_nil)) pa_nil)))) pa_nil)) rfl) (pss_cons (ps_fld (pv 0) pe_dnewK rfl) (pss_one (ps_fld (pv 0) pe_non rfl)))),?_⟩
  refine ⟨_,rfl,_,rfl,(by show 1<=sizeLine;decide),fun r fr=>?_⟩
  have t1:=same_new fr (HO.tup [.str "given"])
  have x1:upd H r (HO.tup [.str "given"]) r=some _:=upd_same
  generalize upd H r (HO.tup [.str "given"])=H1 at t1 x1 |-
  refine ⟨(by show 3<=sizeLine;decide),fun t ft=>?_⟩
  have t2:=same_new ft (HO.tup [v1,v2,.ref r])
  have x2:upd H1 t (HO.tup [v1,v2,.ref r]) t=some _:=upd_same
  generalize upd H1 t (HO.tup [v1,v2,.ref r])=H2 at t2 x2 |-
  refine ⟨(by show 1<=sizeLine;decide),fun L fL=>?_⟩
  have t3:=same_new fL (HO.lst [.ref t])
  have x3:upd H2 L (HO.lst [.ref t]) L=some _:=upd_same
  generalize upd H2 L (HO.lst [.ref t])=H3 at t3 x3 |-
  have s3:=t1.trans (t2.trans t3)
  have hp3:=s3 _ _ hp
  refine ⟨_,rfl,p,C,dx,[],rfl,hp3,R.cl,R.nl,(by show 0<1000;decide),?_⟩
  have npL:p≠L:=ne_of_none ((t1.trans t2) _ _ hp) fL
  have k4:∀ b o,H3 b=some o->b≠p->upd H3 p (HO.ins C dx (L2.putF "lines" (.ref L) [])) b=some o:=fun b o e hb=>by rw [upd_ne hb];exact e
  have x4:upd H3 p (HO.ins C dx (L2.putF "lines" (.ref L) [])) p=some _:=upd_same
  generalize upd H3 p (HO.ins C dx (L2.putF "lines" (.ref L) []))=H4 at k4 x4 |-
  refine fun O fO=>?_
  have t5:=same_new fO (HO.dK [])
  have x5:upd H4 O (HO.dK []) O=some _:=upd_same
  generalize upd H4 O (HO.dK [])=H5 at t5 x5 |-
  have npO:p≠O:=ne_of_none x4 fO
  refine ⟨_,rfl,p,C,dx,_,rfl,t5 _ _ x4,R.cl,R.no,?_,?_⟩
  · have h2:=L2.length_putF (Str.ofString "lines") (V.ref L) []
    simp only [zLN] at h2
    omega
  have k6:∀ b o,H5 b=some o->b≠p->upd H5 p (HO.ins C dx (L2.putF "onward" (.ref O) (L2.putF "lines" (.ref L) []))) b=some o:=fun b o e hb=>by rw [upd_ne hb];exact e
  have x6:upd H5 p (HO.ins C dx (L2.putF "onward" (.ref O) (L2.putF "lines" (.ref L) []))) p=some _:=upd_same
  generalize upd H5 p (HO.ins C dx (L2.putF "onward" (.ref O) (L2.putF "lines" (.ref L) [])))=H6 at k6 x6 |-
  refine ⟨_,rfl,p,C,dx,_,rfl,x6,R.cl,R.nc,?_,?_⟩
  · have h1:=L2.length_putF (Str.ofString "onward") (V.ref O) (L2.putF (Str.ofString "lines") (V.ref L) [])
    have h2:=L2.length_putF (Str.ofString "lines") (V.ref L) []
    simp only [zLN] at h2
    omega
  have kk:∀ b o,H b=some o->b≠p->upd H6 p (HO.ins C dx (L2.putF "clash" .non (L2.putF "onward" (.ref O) (L2.putF "lines" (.ref L) [])))) b=some o:=fun b o e hb=>by
    rw [upd_ne hb]
    exact k6 _ _ (t5 _ _ (k4 _ _ (s3 _ _ e) hb)) hb
  have k36:∀ b o,H3 b=some o->b≠p->upd H6 p (HO.ins C dx (L2.putF "clash" .non (L2.putF "onward" (.ref O) (L2.putF "lines" (.ref L) [])))) b=some o:=fun b o e hb=>by
    rw [upd_ne hb]
    exact k6 _ _ (t5 _ _ (k4 _ _ e hb)) hb
  have kT:TSame H3 (upd H6 p (HO.ins C dx (L2.putF "clash" .non (L2.putF "onward" (.ref O) (L2.putF "lines" (.ref L) []))))):=fun b xs e=>k36 _ _ e (ne_of e hp3 (by intro z;cases z))
  have fO0:H O=none:=by
    cases e:H O with
    | none=>rfl
    | some o=>rw [k4 _ _ (s3 _ _ e) npO.symm] at fO;cases fO
  refine q L O _ ((t1.trans t2).free fL) fO0 kk ⟨?_,⟨[.ref t],k36 _ _ x3 npL.symm,.cons ⟨t,v1,v2,r,rfl,kT _ _ (t3 _ _ x2),kT _ _ ((t2.trans t3) _ _ x1),(h1.mono (.of s3)).mono kT,(h2.mono (.of s3)).mono kT⟩ .nil⟩,⟨[],?_,fun _ _ _ _=>rfl,by simp⟩,by simp,⟨⟨⟨_,rfl,rfl⟩,trivial⟩,fun x hx=>?_,fun t n e=>by cases e⟩,fun t ht=>?_⟩
  · rw [upd_same,init_rk]
  · rw [upd_ne npO.symm]
    exact k6 _ _ x5 npO.symm
  · cases List.mem_singleton.mp hx
    exact ⟨List.mem_append_left _ (rp_self _),List.mem_append_right _ (rp_self _)⟩
  · rcases List.mem_append.mp ht with z | z
    · exact ⟨rp_ok ho1 _ z,Nat.le_trans (rp_nodes z) hn1⟩
    · exact ⟨rp_ok ho2 _ z,Nat.le_trans (rp_nodes z) hn2⟩
def spAdded (C:Addr):Sp:=fun vs H Q _=>∃ (p dx L O:Addr) (g:Ln) (U:List Tm) (fs:List Lf) (on:On) (cl:V) (N:Nat) (v1 v2:V) (r:Addr) (a b:Tm) (ri:RI),vs=[.ref p,v1,v2,.ref r]/\RK C p dx L O g U H fs on cl N/\TermAt H v1 a/\TermAt H v2 b/\H r=some (.tup (riL ri))/\Leads (fs.map (·.1)) g ri (a,b)/\a∈U/\b∈U/\N<=90000 /\
  ∀ H',Fr3 p L O H H'->RK C p dx L O g U H' (fs++[((a,b),ri)]) on cl (N+1)->Q (.int (fs.length:Nat)) H'
theorem ok_added {f:Addr}{fd:FuncData}(F:Fun K "added" "Reckoning.added" s_Reckoning_added f fd) (R:RG K C) (T:Bi mg):FnOk P w K mg base CX0 1 f fd ["self","one","other","reason"] (spAdded C):=by
  refine F.ok sc_Reckoning_added (fun vs H Q E h=>?_) (fun cdv A outer s H vs Q E hr h=>?_)
  · obtain ⟨_,_,_,_,_,_,_,_,_,_,_,_,_,_,_,_,rfl,_⟩:=h
    rfl
  obtain ⟨p,dx,L,O,g,U,fs,on,cl,N,v1,v2,r,a,b,ri,rfl,hk,h1,h2,hr0,hl,ha,hb,hN,q⟩:=h
  obtain ⟨ls,gL,hls⟩:=hk.ls
  have hll:ls.length=fs.length:=Paired.length hls
  obtain ⟨npL,npO,nLO⟩:=hk.ne
  have hlen:=hk.len
  refine ⟨_,(pss_cons (ps_expr (pe_bm PySem.F.plainAttrs_list PySem.F.slot_list_append PySem.F.type_list_append mt_append (pe_fld (pv 0) rfl) (pa_cons (pe_tup (pa_cons (pv 1) (pa_cons (pv 2) (pa_cons (pv 3) pa_nil)))) pa_nil))) (pss_one (ps_ret (pe_op op_sub (pe_blt call_len_seq T.b_len bt_len (pa_cons (pe_fld (pv 0) rfl) pa_nil)) pe_int)))),?_⟩
  refine ⟨_,rfl,p,C,dx,_,_,rfl,hk.self,R.cl,R.nl,lk_lines,.inl ⟨rfl,_,SqL.of gL⟩,_,rfl,_,rfl,_,rfl,(by show 3<=sizeLine;decide),fun t ft=>?_⟩
  have s1:=same_new ft (HO.tup [v1,v2,.ref r])
  have x1:upd H t (HO.tup [v1,v2,.ref r]) t=some _:=upd_same
  generalize upd H t (HO.tup [v1,v2,.ref r])=H1 at s1 x1 |-
  have gL1:=s1 _ _ gL
  refine ⟨L,_,_,rfl,rfl,gL1,big (by omega),?_⟩
  have hk1:=hk.same s1
  have kT:TSame H1 (upd H1 L (HO.lst (ls++[.ref t]))):=.lst gL1
  have self2:upd H1 L (HO.lst (ls++[.ref t])) p=some (.ins C dx (flRk L O cl)):=by rw [upd_ne npL];exact hk1.self
  have gL2:upd H1 L (HO.lst (ls++[.ref t])) L=some _:=upd_same
  have new:RK C p dx L O g U (upd H1 L (HO.lst (ls++[.ref t]))) (fs++[((a,b),ri)]) on cl (N+1):=by
    obtain ⟨k,e1,e2,e3⟩:=hk1.dic
    exact ⟨self2,⟨_,gL2,paired_snoc (LfAt.mono kT (LfAt.mono (.of s1) hls)) ⟨t,v1,v2,r,rfl,kT _ _ x1,kT _ _ (s1 _ _ hr0),(h1.mono (.of s1)).mono kT,(h2.mono (.of s1)).mono kT⟩⟩,⟨k,by rw [upd_ne nLO.symm];exact e1,e2,by omega⟩,by rw [zLA];simp only [zLC,zLN];omega,(hk.st.add hl ha hb).1,hk.ok⟩
  have fr:Fr3 p L O H (upd H1 L (HO.lst (ls++[.ref t]))):=fun b o e _ h2 _=>by rw [upd_ne h2];exact s1 _ _ e
  generalize upd H1 L (HO.lst (ls++[.ref t]))=H2 at self2 gL2 new fr |-
  refine ⟨_,rfl,p,C,dx,_,_,rfl,self2,R.cl,R.nl,lk_lines,L,_,rfl,.inl (SqL.of gL2),_,_,rfl,rfl,?_⟩
  have e:(((ls++[V.ref t]).length:Nat):Int) - 1=((fs.length:Nat):Int):=by rw [zLA,hll];simp
  have:=q H2 fr new
  rw [<- e] at this
  exact this
def spTurned (C:Addr):Sp:=fun vs H Q _=>∃ (p dx L O:Addr) (g:Ln) (U:List Tm) (fs:List Lf) (on:On) (cl:V) (N n:Nat) (x:Lf),vs=[.ref p,.int (n:Nat)]/\RK C p dx L O g U H fs on cl N/\fs[n]?=some x/\N<=90000 /\
  ∀ H',Fr3 p L O H H'->RK C p dx L O g U H' (fs++[((x.1.2,x.1.1),.turn (n:Nat))]) on cl (N+1)->Q (.int (fs.length:Nat)) H'
theorem ok_turned {f:Addr}{fd:FuncData}(F:Fun K "turned" "Reckoning.turned" s_Reckoning_turned f fd) (R:RG K C) (m_added:Mtd P w K mg base 1 C "added" ["self","one","other","reason"] (spAdded C)):FnOk P w K mg base CX0 2 f fd ["self","number"] (spTurned C):=by
  refine F.ok sc_Reckoning_turned (fun vs H Q E h=>?_) (fun cdv A outer s H vs Q E hr h=>?_)
  · obtain ⟨_,_,_,_,_,_,_,_,_,_,_,_,rfl,_⟩:=h
    rfl
  obtain ⟨p,dx,L,O,g,U,fs,on,cl,N,n,x,rfl,hk,hx,hN,q⟩:=h
  obtain ⟨ls,gL,hls⟩:=hk.ls
  obtain ⟨a,u,v,r,hat,ha,hr',hu,hv⟩:=lf_get hls hx
  have hin:=hk.st.inU x (List.mem_of_getElem? hx)
  apply let_ts;intro T1
  refine ⟨_,(pss_cons (ps_set (i:=2) sc_Reckoning_turned.nd rfl (Or.inl rfl) (pe_ix ix_list (pe_fld (pv 0) rfl) (pv 1) (fun _ _=>rfl))) (pss_as T1 (pss_one (ps_ret (pe_mt m_added (hr.mono (by decide)) (pv 0) (pa_cons (pe_ix ix_tup (pv 2) pe_int (fun _ _=>rfl)) (pa_cons (pe_ix ix_tup (pv 2) pe_int (fun _ _=>rfl)) (pa_cons (pe_tup (pa_cons pe_str (pa_cons (pv 1) pa_nil))) pa_nil)))))))),?_⟩
  refine ⟨_,rfl,p,C,dx,_,_,rfl,hk.self,R.cl,R.nl,lk_lines,_,rfl,L,_,_,_,rfl,rfl,SqL.of gL,hat,?_⟩
  refine ⟨_,rfl,p,dx,_,rfl,hk.self,lk_none (by decide +kernel) (by decide +kernel) (by decide +kernel),_,rfl,_,_,_,_,rfl,rfl,SqT.of ha,at1',_,rfl,_,_,_,_,rfl,rfl,SqT.of ha,at0',_,rfl,(by show 2<=sizeLine;decide),fun c fc=>?_⟩
  have s1:=same_new fc (HO.tup [.str "turn",.int (n:Nat)])
  have x1:upd H c (HO.tup [.str "turn",.int (n:Nat)]) c=some _:=upd_same
  generalize upd H c (HO.tup [.str "turn",.int (n:Nat)])=H1 at s1 x1 |-
  exact ⟨p,dx,L,O,g,U,fs,on,cl,N,v,u,c,x.1.2,x.1.1,.turn (n:Nat),rfl,hk.same s1,hv.mono (.of s1),hu.mono (.of s1),x1,leads_turn hx,hin.2,hin.1,hN,fun H' f' k'=>q H' ((Fr3.of s1).trans f') k'⟩
def spChain (C:Addr):Sp:=fun vs H Q _=>∃ (p dx L O:Addr) (g:Ln) (U:List Tm) (fs:List Lf) (on:On) (cl:V) (N n m:Nat) (x y:Lf),vs=[.ref p,.int (n:Nat),.int (m:Nat)]/\RK C p dx L O g U H fs on cl N/\fs[n]?=some x/\fs[m]?=some y/\x.1.2=y.1.1/\N<=90000 /\
  ∀ H',Fr3 p L O H H'->RK C p dx L O g U H' (fs++[((x.1.1,y.1.2),.chain (n:Nat) (m:Nat))]) on cl (N+1)->Q (.int (fs.length:Nat)) H'
theorem ok_rk_chained {f:Addr}{fd:FuncData}(F:Fun K "chained" "Reckoning.chained" s_Reckoning_chained f fd) (R:RG K C) (m_added:Mtd P w K mg base 1 C "added" ["self","one","other","reason"] (spAdded C)):FnOk P w K mg base CX0 2 f fd ["self","number","further"] (spChain C):=by
  refine F.ok sc_Reckoning_chained (fun vs H Q E h=>?_) (fun cdv A outer s H vs Q E hr h=>?_)
  · obtain ⟨_,_,_,_,_,_,_,_,_,_,_,_,_,_,rfl,_⟩:=h
    rfl
  obtain ⟨p,dx,L,O,g,U,fs,on,cl,N,n,m,x,y,rfl,hk,hx,hy,hxy,hN,q⟩:=h
  obtain ⟨ls,gL,hls⟩:=hk.ls
  obtain ⟨a,u,v,r,hat,ha,hr',hu,hv⟩:=lf_get hls hx
  obtain ⟨a2,u2,v2,r2,hat2,ha2,hr2,hu2,hv2⟩:=lf_get hls hy
  have hin:=hk.st.inU x (List.mem_of_getElem? hx)
  have hin2:=hk.st.inU y (List.mem_of_getElem? hy)
  refine ⟨_,(pss_one (ps_ret (pe_mt m_added (hr.mono (by decide)) (pv 0) (pa_cons (pe_ix ix_tup (pe_ix ix_list (pe_fld (pv 0) rfl) (pv 1) (fun _ _=>rfl)) pe_int (fun _ _=>rfl)) (pa_cons (pe_ix ix_tup (pe_ix ix_list (pe_fld (pv 0) rfl) (pv 2) (fun _ _=>rfl)) pe_int (fun _ _=>rfl)) (pa_cons (pe_tup (pa_cons pe_str (pa_cons (pv 1) (pa_cons (pv 2) pa_nil)))) pa_nil)))))),?_⟩
  refine ⟨_,rfl,p,dx,_,rfl,hk.self,lk_none (by decide +kernel) (by decide +kernel) (by decide +kernel),_,rfl,p,C,dx,_,_,rfl,hk.self,R.cl,R.nl,lk_lines,_,rfl,L,_,_,_,rfl,rfl,SqL.of gL,hat,_,_,_,_,rfl,rfl,SqT.of ha,at0',?_⟩
  refine ⟨_,rfl,p,C,dx,_,_,rfl,hk.self,R.cl,R.nl,lk_lines,_,rfl,L,_,_,_,rfl,rfl,SqL.of gL,hat2,_,_,_,_,rfl,rfl,SqT.of ha2,at1',_,rfl,_,rfl,(by show 3<=sizeLine;decide),fun c fc=>?_⟩
  have s1:=same_new fc (HO.tup [.str "chain",.int (n:Nat),.int (m:Nat)])
  have x1:upd H c (HO.tup [.str "chain",.int (n:Nat),.int (m:Nat)]) c=some _:=upd_same
  generalize upd H c (HO.tup [.str "chain",.int (n:Nat),.int (m:Nat)])=H1 at s1 x1 |-
  exact ⟨p,dx,L,O,g,U,fs,on,cl,N,u,v2,c,x.1.1,y.1.2,.chain (n:Nat) (m:Nat),rfl,hk.same s1,hu.mono (.of s1),hv2.mono (.of s1),x1,leads_chain hx hy hxy,hin.1,hin2.2,hN,fun H' f' k'=>q H' ((Fr3.of s1).trans f') k'⟩
def spLead (C:Addr):Sp:=fun vs H Q _=>∃ (p dx L O:Addr) (g:Ln) (U:List Tm) (fs:List Lf) (on:On) (cl:V) (N n:Nat) (x:Lf),vs=[.ref p,.int (n:Nat)]/\RK C p dx L O g U H fs on cl N/\fs[n]?=some x/\N<=90000 /\
  ∀ H',Fr3 p L O H H'->RK C p dx L O g U H' fs (putN on x.1.1 n) cl (N+1)->Q .non H'
theorem ok_lead_on {f:Addr}{fd:FuncData}(F:Fun K "lead_on" "Reckoning.lead_on" s_Reckoning_lead_on f fd) (R:RG K C) (c_shown:Cal P w K mg base 2 "shown" ["term"] spShown):FnOk P w K mg base CX0 3 f fd ["self","number"] (spLead C):=by
  refine F.ok sc_Reckoning_lead_on (fun vs H Q E h=>?_) (fun cdv A outer s H vs Q E hr h=>?_)
  · obtain ⟨_,_,_,_,_,_,_,_,_,_,_,_,rfl,_⟩:=h
    rfl
  obtain ⟨p,dx,L,O,g,U,fs,on,cl,N,n,x,rfl,hk,hx,hN,q⟩:=h
  have hun:=hr.un
  have hu:(A.deeper (PyProof.Rows.envOfC "Reckoning.lead_on" (defScope s_Reckoning_lead_on) s.heap.objs.size f cdv)).units+1<cLine:=by omega
  obtain ⟨ls,gL,hls⟩:=hk.ls
  obtain ⟨kvs,gO,hon,hkl⟩:=hk.dic
  obtain ⟨a,u,v,r,hat,ha,hr',hu1,hv⟩:=lf_get hls hx
  have hin:=hk.st.inU x (List.mem_of_getElem? hx)
  have hok:=hk.ok _ hin.1
  obtain ⟨npL,npO,nLO⟩:=hk.ne
  refine ⟨_,(pss_one (ps_dput hu (pe_fld (pv 0) rfl) (pe_cal c_shown (hr.mono (by decide)) (pa_cons (pe_ix ix_tup (pe_ix ix_list (pe_fld (pv 0) rfl) (pv 1) (fun _ _=>rfl)) pe_int (fun _ _=>rfl)) pa_nil)) (pv 1) rfl)),?_⟩
  refine ⟨_,rfl,_,rfl,p,C,dx,_,_,rfl,hk.self,R.cl,R.no,lk_onward,_,rfl,p,C,dx,_,_,rfl,hk.self,R.cl,R.nl,lk_lines,_,rfl,L,_,_,_,rfl,rfl,SqL.of gL,hat,_,_,_,_,rfl,rfl,SqT.of ha,at0',u,x.1.1,rfl,hu1,hok.1,by omega,fun y H1 s1 hy=>?_⟩
  have gO1:=s1 _ _ gO
  refine ⟨O,_,rfl,DPut.k (k:=Sum.inr y) gO1 (big (by omega)),?_⟩
  have hk1:=hk.same s1
  have kT:TSame H1 (upd H1 O (HO.dK (putK kvs (Sum.inr y) (.int (n:Nat))))):=fun b ys z=>by rw [upd_ne (ne_of z gO1 (by intro z;cases z))];exact z
  have hlp:=length_putK kvs (Sum.inr y) (V.int (n:Nat))
  have hlen:=hk.len
  refine q _ (fun b o e _ _ h3=>by rw [upd_ne h3];exact s1 _ _ e) ⟨by rw [upd_ne npO];exact hk1.self,⟨ls,by rw [upd_ne nLO];exact s1 _ _ gL,LfAt.mono kT (LfAt.mono (.of s1) hls)⟩,⟨_,upd_same,hon.put hk.ok hin.1 hy,by omega⟩,by omega,(hk.st.lead hx).1,hk.ok⟩
def spOn (C:Addr):Sp:=fun vs H Q _=>∃ (p dx L O:Addr) (g:Ln) (U:List Tm) (fs:List Lf) (on:On) (cl:V) (N:Nat) (v:V) (t:Tm),vs=[.ref p,v]/\RK C p dx L O g U H fs on cl N/\TermAt H v t/\t∈U/\∀ H',Same H H'->Q (onV (on t)) H'
theorem ok_line_on {f:Addr}{fd:FuncData}(F:Fun K "line_on" "Reckoning.line_on" s_Reckoning_line_on f fd) (R:RG K C) (c_shown:Cal P w K mg base 2 "shown" ["term"] spShown):FnOk P w K mg base CX0 3 f fd ["self","term"] (spOn C):=by
  refine F.ok sc_Reckoning_line_on (fun vs H Q E h=>?_) (fun cdv A outer s H vs Q E hr h=>?_)
  · obtain ⟨_,_,_,_,_,_,_,_,_,_,_,_,rfl,_⟩:=h
    rfl
  obtain ⟨p,dx,L,O,g,U,fs,on,cl,N,v,t,rfl,hk,hv,ht,q⟩:=h
  have hun:=hr.un
  have hu:(A.deeper (PyProof.Rows.envOfC "Reckoning.line_on" (defScope s_Reckoning_line_on) s.heap.objs.size f cdv)).units+1<cLine:=by omega
  obtain ⟨kvs,gO,hon,hkl⟩:=hk.dic
  have hok:=hk.ok t ht
  refine ⟨_,(pss_one (ps_ret (pe_dget1 hu (pe_fld (pv 0) rfl) (pe_cal c_shown (hr.mono (by decide)) (pa_cons (pv 1) pa_nil)) ⟨rfl,rfl,rfl,rfl⟩))),?_⟩
  refine ⟨_,rfl,p,C,dx,_,_,rfl,hk.self,R.cl,R.no,lk_onward,O,rfl,.inl ⟨kvs,.inl gO⟩,_,rfl,v,t,rfl,hv,hok.1,by omega,fun y H1 s1 hy=>⟨_,DGet.k (k:=Sum.inr y) (s1 _ _ gO),?_⟩⟩
  have:=q H1 s1
  rw [hon t ht y hy]
  cases e:on t with
  | none=>rw [e] at this;exact this
  | some n=>rw [e] at this;exact this
end
end K08
namespace K08
open PySem L2 BF
section
variable {P:Program}{w:World}{K:PySem.W.Frag}{mg:Str->Option Value}{base:Heap}{C:Addr}
def Ext (fs fs':List Lf):Prop:=∃ gs,fs'=fs++gs
theorem Ext.refl {fs:List Lf}:Ext fs fs:=⟨[],by simp⟩
theorem Ext.trans {a b c:List Lf}(h:Ext a b) (k:Ext b c):Ext a c:=by
  obtain ⟨x,rfl⟩:=h
  obtain ⟨y,rfl⟩:=k
  exact ⟨x++y,by rw [List.append_assoc]⟩
theorem Ext.one {fs:List Lf}{x:Lf}:Ext fs (fs++[x]):=⟨[x],rfl⟩
theorem Ext.get {fs fs':List Lf}(h:Ext fs fs') {n:Nat}{x:Lf}(e:fs[n]?=some x):fs'[n]?=some x:=by
  obtain ⟨y,rfl⟩:=h
  exact get_app e
theorem Ext.nums {fs fs':List Lf}(h:Ext fs fs') {ns:List Nat}{pd:List Ln}(e:NumsAt fs ns pd):NumsAt fs' ns pd:=by
  obtain ⟨y,rfl⟩:=h
  exact e.app
theorem last_get (fs:List Lf) (x:Lf):(fs++[x])[fs.length]?=some x:=by simp
def spToEnd (C:Addr):Sp:=fun vs H Q _=>∃ (p dx L O:Addr) (g:Ln) (U:List Tm) (fs:List Lf) (on:On) (cl:V) (N:Nat) (v:V) (t e:Tm) (k:Nat),vs=[.ref p,v]/\RK C p dx L O g U H fs on cl N/\TermAt H v t/\t∈U/\Rch (nxOf fs on) k t e/\N+2 * U.length<=90000 /\
  ∀ (mo:Option Nat) H' fs' on',Fr3 p L O H H'->RK C p dx L O g U H' fs' on' cl (N+2 * U.length)->Ext fs fs'->Keep g (nxOf fs on) (nxOf fs' on')->(mo=none->t=e)->(∀ m,mo=some m->∃ x,fs'[m]?=some x/\x.1=(t,e))->(nxOf fs on t=none->mo=none)->Q (onV mo) H'
theorem ok_line_to_end {f:Addr}{fd:FuncData}(F:Fun K "line_to_end" "Reckoning.line_to_end" s_Reckoning_line_to_end f fd) (R:RG K C) (T:Bi mg) (m_line_on:Mtd P w K mg base 3 C "line_on" ["self","term"] (spOn C)) (m_chained:Mtd P w K mg base 2 C "chained" ["self","number","further"] (spChain C)) (m_lead_on:Mtd P w K mg base 3 C "lead_on" ["self","number"] (spLead C)) :
    FnOk P w K mg base CX0 4 f fd ["self","term"] (spToEnd C):=by
  refine F.ok sc_Reckoning_line_to_end (fun vs H Q E h=>?_) (fun cdv A outer s H vs Q E hr h=>?_)
  · obtain ⟨_,_,_,_,_,_,_,_,_,_,_,_,_,_,rfl,_⟩:=h
    rfl
  obtain ⟨p,dx,L,O,g,U,fs,on,cl,N,v,t,e,k,rfl,hk,hv,ht,hrc,hN,q⟩:=h
  have hkU:=rch_len hk.st hrc
  refine ⟨_,(pss_cons (ps_set (i:=2) sc_Reckoning_line_to_end.nd rfl (Or.inl rfl) (pe_lst pa_nil))
      (pss_cons (ps_set (i:=3) sc_Reckoning_line_to_end.nd rfl (Or.inl rfl) (pe_mt m_line_on (hr.mono (by decide)) (pv 0) (pa_cons (pv 1) pa_nil)))
      (pss_cons (ps_while PassesOwn.never (pt_cmpR op_notN (pv 3) pe_non (nomark _)) (pss_cons (ps_expr (pe_bm PySem.F.plainAttrs_list PySem.F.slot_list_append PySem.F.type_list_append mt_append (pv 2) (pa_cons (pv 3) pa_nil)))
        (pss_one (ps_set (i:=3) sc_Reckoning_line_to_end.nd rfl (Or.inl rfl) (pe_mt m_line_on (hr.mono (by decide)) (pv 0) (pa_cons (pe_ix ix_tup (pe_ix ix_list (pe_fld (pv 0) rfl) (pv 3) (fun _ _=>rfl)) pe_int (fun _ _=>rfl)) pa_nil))))))
      (pss_cons (ps_set (i:=4) sc_Reckoning_line_to_end.nd rfl (Or.inl rfl) pe_non)
      (pss_cons (ps_for PassesOwn.never rfl (pi_revL rfl T.b_reversed (pa_cons (pv 2) pa_nil)) (pg_name (i:=5) sc_Reckoning_line_to_end.nd rfl (Or.inl rfl)) (pss_cons (ps_set (i:=4) sc_Reckoning_line_to_end.nd rfl (Or.inl rfl) (pe_ifExp (pt_cmpR op_isN (pv 4) pe_non (nomark _)) (pv 5) (pe_mt m_chained (hr.mono (by decide)) (pv 0) (pa_cons (pv 5) (pa_cons (pv 4) pa_nil)))))
        (pss_one (ps_expr (pe_mt m_lead_on (hr.mono (by decide)) (pv 0) (pa_cons (pv 4) pa_nil))))))
      (pss_one (ps_ret (pv 4)))))))),?_⟩
  refine ⟨(by show 0<=sizeLine;decide),fun sp fsp=>?_⟩
  have s1:=same_new fsp (HO.lst [])
  have x1:upd H sp (HO.lst []) sp=some _:=upd_same
  generalize upd H sp (HO.lst [])=H1 at s1 x1 |-
  have hk1:=hk.same s1
  have nsL:sp≠L:=fun z=>by
    obtain ⟨ls,e1,_⟩:=hk.ls
    rw [z,e1] at fsp
    cases fsp
  have nsp:sp≠p:=fun z=>by rw [z,hk.self] at fsp;cases fsp
  have nsO:sp≠O:=fun z=>by
    obtain ⟨ls,e1,_⟩:=hk.dic
    rw [z,e1] at fsp
    cases fsp
  refine ⟨_,rfl,p,dx,_,rfl,hk1.self,lk_none (by decide +kernel) (by decide +kernel) (by decide +kernel),_,rfl,p,dx,L,O,g,U,fs,on,cl,N,v,t,rfl,hk1,hv.mono (.of s1),ht,fun H2 s2=>?_⟩
  refine ⟨fun m σ HA=>∃ (ns:List Nat) (c:Tm),σ=[some (.ref p),some v,some (.ref sp),some (onV (on c)),none,none]/\Same H HA/\HA sp=some (.lst (natL ns))/\RK C p dx L O g U HA fs on cl N/\Way fs on t ns c/\Rch (nxOf fs on) m c e/\c∈U/\ns.length+m=k,
    ⟨k,[],t,rfl,s1.trans s2,s2 _ _ x1,hk1.same s2,.nil,hrc,ht,by simp⟩,?_⟩
  rintro m σ HA ⟨ns,c,rfl,sA,gA,kA,hway,hrm,hcU,hsum⟩
  refine ⟨_,rfl,rfl,_,rfl,ite2 (fun c1=>⟨_,fun _ _ h=>h,?_⟩) (fun c1=>?_)⟩
  · cases hrm with
    | root hn =>
      rw [(nx_none hk.st).mp hn] at c1
      simp [onV] at c1
    | @step m' _ u _ hs hrm' =>
      obtain ⟨n,x,e1,e2,e3⟩:=Rch.mono_app hk.st hs
      obtain ⟨ls,gL,hls⟩:=kA.ls
      rw [e1]
      have hnl:natL ns=ns.map fun n=>V.int (n:Nat):=rfl
      refine ⟨_,rfl,.inl ⟨rfl,_,SqL.of gA⟩,_,rfl,sp,_,_,rfl,rfl,gA,big (by rw [hnl,zLM];omega),?_⟩
      have kT:TSame HA (upd HA sp (HO.lst (natL ns++[onV (some n)]))):=.lst gA
      have x3:upd HA sp (HO.lst (natL ns++[onV (some n)])) sp=some _:=upd_same
      have kk:∀ b o,HA b=some o->b≠sp->upd HA sp (HO.lst (natL ns++[onV (some n)])) b=some o:=fun b o z hb=>by rw [upd_ne hb];exact z
      have s3:Same H (upd HA sp (HO.lst (natL ns++[onV (some n)]))):=fun b o z=>by rw [upd_ne (ne_of_none z fsp)];exact sA _ _ z
      have k3:RK C p dx L O g U (upd HA sp (HO.lst (natL ns++[onV (some n)]))) fs on cl N:=by
        obtain ⟨kvs,gO,ho⟩:=kA.dic
        exact ⟨kk _ _ kA.self nsp.symm,⟨ls,kk _ _ gL nsL.symm,LfAt.mono kT hls⟩,⟨kvs,kk _ _ gO nsO.symm,ho⟩,kA.len,kA.st,kA.ok⟩
      generalize upd HA sp (HO.lst (natL ns++[onV (some n)]))=HB at kT x3 s3 k3 kk |-
      obtain ⟨ls',gL',hls'⟩:=k3.ls
      obtain ⟨a,u1,v1,r,hat,ha,hr',hu1,hv1⟩:=lf_get hls' e2
      have hin:=hk.st.inU x (List.mem_of_getElem? e2)
      refine ⟨_,rfl,p,dx,_,rfl,k3.self,lk_none (by decide +kernel) (by decide +kernel) (by decide +kernel),_,rfl,p,C,dx,_,_,rfl,k3.self,R.cl,R.nl,lk_lines,_,rfl,L,_,_,_,rfl,rfl,SqL.of gL',hat,_,_,_,_,rfl,rfl,SqT.of ha,at1',p,dx,L,O,g,U,fs,on,cl,N,v1,x.1.2,rfl,k3,hv1,hin.2,fun HC sC=>?_⟩
      refine ⟨m',by omega,ns++[n],x.1.2,rfl,s3.trans sC,?_,k3.same sC,.snoc hway e1 e2 (by rw [e3]),?_,hin.2,by rw [zLA];simp only [zLC,zLN];omega⟩
      · have:=sC _ _ x3
        simp only [natL,List.map_append,List.map_cons,List.map_nil,onV] at this |-
        exact this
      · rw [e3];exact hrm'
  · have hn:on c=none:=by
      cases z:on c with
      | none=>rfl
      | some n=>rw [z] at c1;simp [onV] at c1
    have hm:=hrm.of_root ((nx_none hk.st).mpr hn)
    obtain ⟨hm0,rfl⟩:=hm
    have hlen:(natL ns).length=ns.length:=by simp [natL]
    rw [hn]
    refine ⟨_,rfl,sp,natL ns,rfl,SqL.of gA,for_revL (K:=K) (a:=sp) (xs:=natL ns) (fun i σ HB=>∃ (o5:Option V) (mo:Option Nat) (fs':List Lf) (on':On) (d:Tm),σ=[some (.ref p),some v,some (.ref sp),some .non,some (onV mo),o5]/\Fr3 p L O H HB/\HB sp=some (.lst (natL ns))/\RK C p dx L O g U HB fs' on' cl (N+2 * i)/\Ext fs fs'/\Keep g (nxOf fs on) (nxOf fs' on') /\
        Way fs on t (ns.take (ns.length - i)) d/\(i=0->mo=none/\d=e)/\(0<i->∃ m x,mo=some m/\fs'[m]?=some x/\x.1=(d,e)))
      ⟨none,none,fs,on,e,rfl,.of sA,gA,kA,.refl,.refl,by rw [Nat.sub_zero,List.take_of_length_le (Nat.le_refl _)];exact hway,fun _=>⟨rfl,rfl⟩,fun z=>absurd z (Nat.lt_irrefl _)⟩ (fun i σ HB _ ⟨_,_,_,_,_,_,_,z,_⟩=>SqL.of z) ?_ ?_⟩
    · rintro i y σ HB hy ⟨o5,mo,fs',on',d,rfl,fB,gB,kB,hext,hkeep,hway',hz,hp⟩
      have hi:i<ns.length:=by
        have:=(List.getElem?_eq_some_iff.mp hy).1
        rw [List.length_reverse,hlen] at this
        exact this
      have hj:ns.length - 1 - i<ns.length:=by omega
      have ey:y=.int ((ns[ns.length - 1 - i]:Nat):Int):=by
        have h1:=(List.getElem?_eq_some_iff.mp hy).2
        rw [List.getElem_reverse] at h1
        simp only [natL,List.getElem_map,zLM] at h1
        exact h1.symm
      subst ey
      generalize hn':ns[ns.length - 1 - i]=n
      have etk:ns.take (ns.length - i)=ns.take (ns.length - (i+1))++[n]:=by
        have:ns.length - i=(ns.length - (i+1))+1:=by omega
        rw [this,List.take_succ_eq_append_getElem (by omega)]
        congr 2
        rw [<- hn']
        congr 1
        omega
      obtain ⟨d0,x,hway0,on0,ex,ex1⟩:=hway'.unsnoc etk
      obtain ⟨j0,hrj,_⟩:=hway0.rch hrc
      have hnx0:nxOf fs on d0=some d:=by unfold nxOf;rw [on0];simp [ex,ex1]
      obtain ⟨j1,hrj1⟩:∃ j1,Rch (nxOf fs on) (j1+1) d0 e:=by
        cases hrj with
        | root z=>rw [z] at hnx0;cases hnx0
        | step a b=>exact ⟨_,.step a b⟩
      show tSeq _ _ _ _ _
      refine tSeq_cut (fun σ HC=>∃ (m:Nat) (fs2:List Lf) (z:Lf),σ=[some (.ref p),some v,some (.ref sp),some .non,some (.int (m:Nat)),some (.int (n:Nat))]/\Fr3 p L O H HC/\HC sp=some (.lst (natL ns))/\RK C p dx L O g U HC fs2 on' cl (N+2 * i+1)/\Ext fs fs2/\nxOf fs2 on'=nxOf fs' on'/\fs2[m]?=some z/\z.1=(d0,e)) ?_ (fun key=>?_)
      rotate_left
      · by_cases ci:i=0
        · obtain ⟨rfl,rfl⟩:=hz ci
          refine ⟨_,rfl,rfl,_,rfl,iteT ⟨_,rfl,key _ _ ⟨n,fs',x,rfl,fB,gB,kB.more (by omega),hext,rfl,hext.get ex,ex1⟩⟩⟩
        · obtain ⟨m,y,rfl,hy',ey1⟩:=hp (by omega)
          have hx':=hext.get ex
          refine ⟨_,rfl,rfl,_,rfl,ite_f (by simp [onV]) ⟨_,rfl,p,dx,_,rfl,kB.self,lk_none (by decide +kernel) (by decide +kernel) (by decide +kernel),_,rfl,_,rfl,p,dx,L,O,g,U,fs',on',cl,N+2 * i,n,m,x,y,rfl,kB,hx',hy',by rw [ex1,ey1],by omega,fun HC fC kC=>?_⟩⟩
          refine key _ _ ⟨fs'.length,_,_,rfl,fB.trans fC,kB.lst fC gB nsL,kC,hext.trans .one,?_,last_get _ _,by rw [ex1,ey1]⟩
          exact (kB.st.add (leads_chain hx' hy' (by rw [ex1,ey1])) (by have:=kB.st.inU x (List.mem_of_getElem? hx');exact this.1) (by have:=kB.st.inU y (List.mem_of_getElem? hy');exact this.2)).2
      rintro σ HC ⟨m,fs2,z,rfl,fC,gC,kC,hext2,hnx2,hz',ez⟩
      refine ⟨_,rfl,p,dx,_,rfl,kC.self,lk_none (by decide +kernel) (by decide +kernel) (by decide +kernel),_,rfl,p,dx,L,O,g,U,fs2,on',cl,N+2 * i+1,m,z,rfl,kC,hz',by omega,fun HD fD kD=>?_⟩
      obtain ⟨j2,hr2⟩:=hkeep.pos hrj1
      refine ⟨_,some m,fs2,_,d0,rfl,fC.trans fD,kC.lst fD gC nsL,kD,hext2,?_,hway0,fun z=>absurd z (by omega),fun _=>⟨m,z,rfl,hz',ez⟩⟩
      rw [(kC.st.lead hz').2,hnx2,ez]
      exact hkeep.trans (.short hr2)
    · rintro σ HB ⟨o5,mo,fs',on',d,rfl,fB,gB,kB,hext,hkeep,hway',hz,hp⟩
      rw [hlen,Nat.sub_self,List.take_zero] at hway'
      have ed:d=t:=by
        generalize hnl:([]:List Nat)=l at hway'
        cases hway' with
        | nil=>rfl
        | snoc _ _ _ _=>simp at hnl
      subst ed
      refine ⟨_,rfl,q mo HB fs' on' fB (kB.more (by rw [hlen];omega)) hext hkeep (fun z=>?_) (fun m z=>?_) (fun z=>?_)⟩
      · rw [hlen] at hz hp
        by_cases c0:ns.length=0
        · exact (hz c0).2
        · obtain ⟨m,x,e1,_⟩:=hp (by omega)
          rw [z] at e1
          cases e1
      · rw [hlen] at hz hp
        by_cases c0:ns.length=0
        · rw [(hz c0).1] at z;cases z
        · obtain ⟨m',x,e1,e2,e3⟩:=hp (by omega)
          rw [z] at e1
          cases e1
          exact ⟨x,e2,e3⟩
      · have hk0:=(hrc.of_root z).1
        rw [hlen] at hz
        exact (hz (by omega)).1
def spEnd (C:Addr):Sp:=fun vs H Q _=>∃ (p dx L O:Addr) (g:Ln) (U:List Tm) (fs:List Lf) (on:On) (cl:V) (N:Nat) (v:V) (t e:Tm) (k:Nat),vs=[.ref p,v]/\RK C p dx L O g U H fs on cl N/\TermAt H v t/\t∈U/\Rch (nxOf fs on) k t e/\N+2 * U.length<=90000 /\
  ∀ (v':V) H' fs' on',Fr3 p L O H H'->RK C p dx L O g U H' fs' on' cl (N+2 * U.length)->Ext fs fs'->Keep g (nxOf fs on) (nxOf fs' on')->TermAt H' v' e->Q v' H'
theorem ok_end_of {f:Addr}{fd:FuncData}(F:Fun K "end_of" "Reckoning.end_of" s_Reckoning_end_of f fd) (R:RG K C) (m_line_to_end:Mtd P w K mg base 4 C "line_to_end" ["self","term"] (spToEnd C)):FnOk P w K mg base CX0 5 f fd ["self","term"] (spEnd C):=by
  refine F.ok sc_Reckoning_end_of (fun vs H Q E h=>?_) (fun cdv A outer s H vs Q E hr h=>?_)
  · obtain ⟨_,_,_,_,_,_,_,_,_,_,_,_,_,_,rfl,_⟩:=h
    rfl
  obtain ⟨p,dx,L,O,g,U,fs,on,cl,N,v,t,e,k,rfl,hk,hv,ht,hrc,hN,q⟩:=h
  refine ⟨_,(pss_cons (ps_set (i:=2) sc_Reckoning_end_of.nd rfl (Or.inl rfl) (pe_mt m_line_to_end (hr.mono (by decide)) (pv 0) (pa_cons (pv 1) pa_nil)))
      (pss_one (ps_ret (pe_ifExp (pt_cmpR op_isN (pv 2) pe_non (nomark _)) (pv 1) (pe_ix ix_tup (pe_ix ix_list (pe_fld (pv 0) rfl) (pv 2) (fun _ _=>rfl)) pe_int (fun _ _=>rfl)))))),?_⟩
  refine ⟨_,rfl,p,dx,_,rfl,hk.self,lk_none (by decide +kernel) (by decide +kernel) (by decide +kernel),_,rfl,p,dx,L,O,g,U,fs,on,cl,N,v,t,e,k,rfl,hk,hv,ht,hrc,hN,fun mo H1 fs' on' f1 k1 hext hkeep h0 h1 _=>?_⟩
  cases mo with
  | none =>
    have:=h0 rfl
    subst this
    exact ⟨_,rfl,rfl,_,rfl,iteT ⟨_,rfl,q v H1 fs' on' f1 k1 hext hkeep (hv.mono (hk.ts f1))⟩⟩
  | some m =>
    obtain ⟨x,hx,ex⟩:=h1 m rfl
    obtain ⟨ls,gL,hls⟩:=k1.ls
    obtain ⟨a,u1,v1,r,hat,ha,hr',hu1,hv1⟩:=lf_get hls hx
    rw [ex] at hv1
    exact ⟨_,rfl,rfl,_,rfl,ite_f (by simp [onV]) ⟨_,rfl,p,C,dx,_,_,rfl,k1.self,R.cl,R.nl,lk_lines,_,rfl,L,_,_,_,rfl,rfl,SqL.of gL,hat,_,_,_,_,rfl,rfl,SqT.of ha,at1',q v1 H1 fs' on' f1 k1 hext hkeep hv1⟩⟩
def spBetween (C:Addr):Sp:=fun vs H Q _=>∃ (p dx L O:Addr) (g:Ln) (U:List Tm) (fs:List Lf) (on:On) (cl:V) (N n:Nat) (x:Lf) (a b:Tm) (k j:Nat),vs=[.ref p,.int (n:Nat)]/\RK C p dx L O g U H fs on cl N/\fs[n]?=some x/\Rch (nxOf fs on) k x.1.1 a/\Rch (nxOf fs on) j x.1.2 b/\N+4 * U.length+3<=90000 /\
  ∀ (m:Nat) (z:Lf) H' fs' on',Fr3 p L O H H'->RK C p dx L O g U H' fs' on' cl (N+4 * U.length+3)->Ext fs fs'->Keep g (nxOf fs on) (nxOf fs' on')->fs'[m]?=some z->z.1=(a,b)->Q (.int (m:Nat)) H'
theorem ok_between_ends {f:Addr}{fd:FuncData}(F:Fun K "between_ends" "Reckoning.between_ends" s_Reckoning_between_ends f fd) (R:RG K C) (m_line_to_end:Mtd P w K mg base 4 C "line_to_end" ["self","term"] (spToEnd C)) (m_turned:Mtd P w K mg base 2 C "turned" ["self","number"] (spTurned C)) (m_chained:Mtd P w K mg base 2 C "chained" ["self","number","further"] (spChain C)) :
    FnOk P w K mg base CX0 5 f fd ["self","number"] (spBetween C):=by
  refine F.ok sc_Reckoning_between_ends (fun vs H Q E h=>?_) (fun cdv A outer s H vs Q E hr h=>?_)
  · obtain ⟨_,_,_,_,_,_,_,_,_,_,_,_,_,_,_,_,rfl,_⟩:=h
    rfl
  obtain ⟨p,dx,L,O,g,U,fs,on,cl,N,n,x,a,b,k,j,rfl,hk,hx,hra,hrb,hN,q⟩:=h
  obtain ⟨ls,gL,hls⟩:=hk.ls
  obtain ⟨la,u1,v1,r,hat,hla,hr',hu1,hv1⟩:=lf_get hls hx
  have hin:=hk.st.inU x (List.mem_of_getElem? hx)
  refine ⟨_,(pss_cons (ps_set (i:=2) sc_Reckoning_between_ends.nd rfl (Or.inl rfl) (pe_ix ix_list (pe_fld (pv 0) rfl) (pv 1) (fun _ _=>rfl)))
      (pss_cons (ps_set (i:=3) sc_Reckoning_between_ends.nd rfl (Or.inl rfl) (pe_mt m_line_to_end (hr.mono (by decide)) (pv 0) (pa_cons (pe_ix ix_tup (pv 2) pe_int (fun _ _=>rfl)) pa_nil)))
      (pss_cons (ps_set (i:=4) sc_Reckoning_between_ends.nd rfl (Or.inl rfl) (pe_mt m_line_to_end (hr.mono (by decide)) (pv 0) (pa_cons (pe_ix ix_tup (pv 2) pe_int (fun _ _=>rfl)) pa_nil)))
      (pss_cons (ps_set (i:=5) sc_Reckoning_between_ends.nd rfl (Or.inl rfl) (pv 1))
      (pss_cons (ps_if (pt_cmpR op_notN (pv 3) pe_non (nomark _)) (pss_one (ps_set (i:=5) sc_Reckoning_between_ends.nd rfl (Or.inl rfl) (pe_mt m_chained (hr.mono (by decide)) (pv 0) (pa_cons (pe_mt m_turned (hr.mono (by decide)) (pv 0) (pa_cons (pv 3) pa_nil)) (pa_cons (pv 5) pa_nil))))) pss_nil)
      (pss_cons (ps_if (pt_cmpR op_notN (pv 4) pe_non (nomark _)) (pss_one (ps_set (i:=5) sc_Reckoning_between_ends.nd rfl (Or.inl rfl) (pe_mt m_chained (hr.mono (by decide)) (pv 0) (pa_cons (pv 5) (pa_cons (pv 4) pa_nil))))) pss_nil)
      (pss_one (ps_ret (pv 5))))))))),?_⟩
  refine ⟨_,rfl,p,C,dx,_,_,rfl,hk.self,R.cl,R.nl,lk_lines,_,rfl,L,_,_,_,rfl,rfl,SqL.of gL,hat,?_⟩
  refine ⟨_,rfl,p,dx,_,rfl,hk.self,lk_none (by decide +kernel) (by decide +kernel) (by decide +kernel),_,rfl,_,_,_,_,rfl,rfl,SqT.of hla,at0',p,dx,L,O,g,U,fs,on,cl,N,u1,x.1.1,a,k,rfl,hk,hu1,hin.1,hra,by omega,fun mo1 H1 fs1 on1 f1 k1 hext1 hkeep1 h10 h11 _=>?_⟩
  have t1:=hk.ts f1
  obtain ⟨j',hrb'⟩:=hkeep1.rch _ _ _ hrb
  refine ⟨_,rfl,p,dx,_,rfl,k1.self,lk_none (by decide +kernel) (by decide +kernel) (by decide +kernel),_,rfl,_,_,_,_,rfl,rfl,SqT.of (t1 _ _ hla),at1',p,dx,L,O,g,U,fs1,on1,cl,_,v1,x.1.2,b,j',rfl,k1,hv1.mono t1,hin.2,hrb',by omega,fun mo2 H2 fs2 on2 f2 k2 hext2 hkeep2 h20 h21 _=>?_⟩
  have hext:=hext1.trans hext2
  have hkeep:=hkeep1.trans hkeep2
  have hx2:=hext.get hx
  refine ⟨_,rfl,?_⟩
  show Ends.nx _ _ _
  with_reducible show tSeq _ _ _ _ _
  refine tSeq_cut (fun σ H3=>∃ (m:Nat) (z:Lf) (fs3:List Lf),σ=[some (.ref p),some (.int (n:Nat)),some (.ref la),some (onV mo1),some (onV mo2),some (.int (m:Nat))]/\Fr3 p L O H H3/\RK C p dx L O g U H3 fs3 on2 cl (N+4 * U.length+2)/\Ext fs2 fs3/\nxOf fs3 on2=nxOf fs2 on2/\fs3[m]?=some z/\z.1=(a,x.1.2)) ?_ (fun key=>?_)
  rotate_left
  · cases mo1 with
    | none =>
      have:=h10 rfl
      exact ⟨_,rfl,rfl,_,rfl,ite_f (by simp [onV]) (key _ _ ⟨n,x,fs2,rfl,f1.trans f2,k2.more (by omega),.refl,rfl,hx2,by rw [<- this]⟩)⟩
    | some m1 =>
      obtain ⟨y,hy,ey⟩:=h11 m1 rfl
      have hy2:=hext2.get hy
      refine ⟨_,rfl,rfl,_,rfl,ite_t (by simp [onV]) ⟨_,rfl,p,dx,_,rfl,k2.self,lk_none (by decide +kernel) (by decide +kernel) (by decide +kernel),_,rfl,p,dx,_,rfl,k2.self,lk_none (by decide +kernel) (by decide +kernel) (by decide +kernel),_,rfl,p,dx,L,O,g,U,fs2,on2,cl,_,m1,y,rfl,k2,hy2,by omega,fun H3 f3 k3=>?_⟩⟩
      have e3:=(k2.st.add (leads_turn (g:=g) hy2) (k2.st.inU y (List.mem_of_getElem? hy2)).2 (k2.st.inU y (List.mem_of_getElem? hy2)).1).2
      refine ⟨_,rfl,p,dx,L,O,g,U,_,on2,cl,_,fs2.length,n,_,x,rfl,k3,last_get _ _,get_app hx2,by rw [ey],by omega,fun H4 f4 k4=>?_⟩
      refine key _ _ ⟨_,_,_,rfl,(f1.trans f2).trans (f3.trans f4),k4.more (by omega),Ext.one.trans .one,?_,last_get _ _,by rw [ey]⟩
      rw [<- e3]
      exact (k3.st.add (leads_chain (g:=g) (last_get _ _) (get_app hx2) (by rw [ey])) (by show _∈U;exact (k2.st.inU y (List.mem_of_getElem? hy2)).2) hin.2).2
  rintro σ H3 ⟨m,z,fs3,rfl,f3,k3,hext3,hnx3,hz,ez⟩
  with_reducible show tSeq _ _ _ _ _
  refine tSeq_cut (fun σ H4=>∃ (m:Nat) (z:Lf) (fs4:List Lf),σ=[some (.ref p),some (.int (n:Nat)),some (.ref la),some (onV mo1),some (onV mo2),some (.int (m:Nat))]/\Fr3 p L O H H4/\RK C p dx L O g U H4 fs4 on2 cl (N+4 * U.length+3)/\Ext fs3 fs4/\nxOf fs4 on2=nxOf fs2 on2/\fs4[m]?=some z/\z.1=(a,b)) ?_ (fun key=>?_)
  rotate_left
  · cases mo2 with
    | none =>
      have:=h20 rfl
      exact ⟨_,rfl,rfl,_,rfl,ite_f (by simp [onV]) (key _ _ ⟨m,z,fs3,rfl,f3,k3.more (by omega),.refl,hnx3,hz,by rw [ez,this]⟩)⟩
    | some m2 =>
      obtain ⟨y,hy,ey⟩:=h21 m2 rfl
      have hy3:=hext3.get hy
      refine ⟨_,rfl,rfl,_,rfl,ite_t (by simp [onV]) ⟨_,rfl,p,dx,_,rfl,k3.self,lk_none (by decide +kernel) (by decide +kernel) (by decide +kernel),_,rfl,_,rfl,p,dx,L,O,g,U,fs3,on2,cl,_,m,m2,z,y,rfl,k3,hz,hy3,by rw [ez,ey],by omega,fun H4 f4 k4=>?_⟩⟩
      refine key _ _ ⟨_,_,_,rfl,f3.trans f4,k4,.one,?_,last_get _ _,by rw [ez,ey]⟩
      rw [<- hnx3]
      exact (k3.st.add (leads_chain (g:=g) hz hy3 (by rw [ez,ey])) (k3.st.inU z (List.mem_of_getElem? hz)).1 (k3.st.inU y (List.mem_of_getElem? hy3)).2).2
  rintro σ H4 ⟨m4,z4,fs4,rfl,f4,k4,hext4,hnx4,hz4,ez4⟩
  exact ⟨_,rfl,q m4 z4 H4 fs4 on2 f4 k4 (hext.trans (hext3.trans hext4)) (hnx4▸hkeep) hz4 ez4⟩
end
end K08
namespace K08
open PySem L2 BF
section
variable {P:Program}{w:World}{K:PySem.W.Frag}{mg:Str->Option Value}{base:Heap}{C:Addr}
theorem at2'' {x y z:V}{xs:List V}:atI (x::y::z::xs) (2:Int)=some z:=atI_nat (j:=2) rfl
def spPartL (C:Addr):Sp:=fun vs H Q _=>∃ (p dx L O:Addr) (g:Ln) (U:List Tm) (fs:List Lf) (on:On) (cl:V) (N n:Nat) (w:Str) (ps qs:List Tm) (r:RI),vs=[.ref p,.int (n:Nat)]/\RK C p dx L O g U H fs on cl N/\fs[n]?=some ((.thing w ps,.thing w qs),r)/\ps.length=qs.length/\N+ps.length<=90000/\(∀ x∈ps,x∈U)/\(∀ x∈qs,x∈U) /\
  ∀ (l:Addr) (ns:List Nat) H' fs',Fr3 p L O H H'->RK C p dx L O g U H' fs' on cl (N+ps.length)->Ext fs fs'->nxOf fs' on=nxOf fs on->H l=none->H' l=some (.lst (natL ns))->NumsAt fs' ns (ps.zip qs).reverse->Q (.ref l) H'
theorem ok_part_lines {f:Addr}{fd:FuncData}(F:Fun K "part_lines" "Reckoning.part_lines" s_Reckoning_part_lines f fd) (R:RG K C) (T:Bi mg) (TZ:mg "zip"=none) (TE:mg "enumerate"=none) (m_added:Mtd P w K mg base 1 C "added" ["self","one","other","reason"] (spAdded C)) :
    FnOk P w K mg base CX0 2 f fd ["self","number"] (spPartL C):=by
  refine F.ok sc_Reckoning_part_lines (fun vs H Q E h=>?_) (fun cdv A outer s H vs Q E hr h=>?_)
  · obtain ⟨_,_,_,_,_,_,_,_,_,_,_,_,_,_,_,rfl,_⟩:=h
    rfl
  obtain ⟨p,dx,L,O,g,U,fs,on,cl,N,n,w1,ps,qs,r,rfl,hk,hx,hl,hN,hpU,hqU,q⟩:=h
  obtain ⟨ls,gL,hls⟩:=hk.ls
  obtain ⟨la,u1,v1,r1,hat,hla,hr',hu1,hv1⟩:=lf_get hls hx
  obtain ⟨a1,b1,us1,rfl,e1,g1,m1⟩:=termAt_thing.mp hu1
  obtain ⟨a2,b2,us2,rfl,e2,g2,m2⟩:=termAt_thing.mp hv1
  have l1:=m1.len
  have l2:=m2.len
  refine ⟨_,(pss_cons (ps_set (i:=2) sc_Reckoning_part_lines.nd rfl (Or.inl rfl) (pe_ix ix_list (pe_fld (pv 0) rfl) (pv 1) (fun _ _=>rfl)))
      (pss_cons (ps_set (i:=3) sc_Reckoning_part_lines.nd rfl (Or.inl rfl) (pe_lst pa_nil))
      (pss_cons (ps_for PassesOwn.never rfl (pi_enumzip rfl TE rfl TZ (pa_cons (pe_ix ix_tup (pe_ix ix_tup (pv 2) pe_int (fun _ _=>rfl)) pe_int (fun _ _=>rfl)) (pa_cons (pe_ix ix_tup (pe_ix ix_tup (pv 2) pe_int (fun _ _=>rfl)) pe_int (fun _ _=>rfl)) pa_nil))) (pg_tup rfl (pgs_cons (pg_name (i:=4) sc_Reckoning_part_lines.nd rfl (Or.inl rfl)) (pgs_cons (pg_name (i:=5) sc_Reckoning_part_lines.nd rfl (Or.inl rfl)) pgs_nil))) (pss_one (ps_expr (pe_bm PySem.F.plainAttrs_list PySem.F.slot_list_append PySem.F.type_list_append mt_append (pv 3) (pa_cons (pe_mt m_added (hr.mono (by decide)) (pv 0) (pa_cons (pe_ix ix_tup (pv 5) pe_int (fun _ _=>rfl)) (pa_cons (pe_ix ix_tup (pv 5) pe_int (fun _ _=>rfl)) (pa_cons (pe_tup (pa_cons pe_str (pa_cons (pv 1) (pa_cons (pv 4) pa_nil)))) pa_nil)))) pa_nil)))))
      (pss_one (ps_ret (pe_listrevL T.b_list T.b_reversed (pv 3))))))),?_⟩
  refine ⟨_,rfl,p,C,dx,_,_,rfl,hk.self,R.cl,R.nl,lk_lines,_,rfl,L,_,_,_,rfl,rfl,SqL.of gL,hat,?_⟩
  refine ⟨(by show 0<=sizeLine;decide),fun lp flp=>?_⟩
  have s1:=same_new flp (HO.lst [])
  have x1:upd H lp (HO.lst []) lp=some _:=upd_same
  generalize upd H lp (HO.lst [])=H1 at s1 x1 |-
  have hk1:=hk.same s1
  have npL:lp≠L:=fun z=>by rw [z,gL] at flp;cases flp
  refine ⟨_,rfl,_,_,_,_,rfl,rfl,SqT.of (s1 _ _ hla),at0',_,_,_,_,rfl,rfl,SqT.of (s1 _ _ e1),at2'',_,rfl,_,_,_,_,rfl,rfl,SqT.of (s1 _ _ hla),at1',_,_,_,_,rfl,rfl,SqT.of (s1 _ _ e2),at2'',b1,b2,us1,us2,rfl,s1 _ _ g1,s1 _ _ g2,?_⟩
  refine for_ez ps.length l1 (by omega) (fun i σ HX=>∃ (o4 o5:Option V) (ns:List Nat) (fs':List Lf),σ=[some (.ref p),some (.int (n:Nat)),some (.ref la),some (.ref lp),o4,o5]/\Fr3 p L O H HX/\HX lp=some (.lst (natL ns))/\RK C p dx L O g U HX fs' on cl (N+i)/\Ext fs fs'/\nxOf fs' on=nxOf fs on/\NumsAt fs' ns ((ps.zip qs).take i))
    ⟨none,none,[],fs,rfl,.of s1,x1,hk1,.refl,rfl,.nil⟩ (fun i σ HX _ ⟨_,_,_,_,_,fX,_⟩=>⟨hk.ts fX _ _ g1,hk.ts fX _ _ g2⟩) ?_ ?_
  · rintro i x y p0 q0 σ HX hxi hyi ⟨o4,o5,ns,fs',rfl,fX,glp,kX,hext,hnx,hns⟩ fp0 fq0
    have t1:=same_new fp0 (HO.tup [x,y])
    have z1:upd HX p0 (HO.tup [x,y]) p0=some _:=upd_same
    generalize upd HX p0 (HO.tup [x,y])=J1 at t1 z1 fq0 |-
    have t2:=same_new fq0 (HO.tup [.int (i:Nat),.ref p0])
    have z2:upd J1 q0 (HO.tup [.int (i:Nat),.ref p0]) q0=some _:=upd_same
    generalize upd J1 q0 (HO.tup [.int (i:Nat),.ref p0])=J2 at t2 z2 |-
    have hi:i<us1.length:=(List.getElem?_eq_some_iff.mp hxi).1
    have hi1:i<ps.length:=by omega
    have hi2:i<qs.length:=by omega
    have s2:=t1.trans t2
    have k2:=kX.same s2
    have hts:=(hk.ts fX).trans (.of s2)
    refine ⟨q0,_,rfl,SqT.of z2,rfl,_,_,rfl,_,_,rfl,rfl,?_⟩
    have glp2:=s2 _ _ glp
    refine ⟨_,rfl,.inl ⟨rfl,_,SqL.of glp2⟩,_,rfl,p,dx,_,rfl,k2.self,lk_none (by decide +kernel) (by decide +kernel) (by decide +kernel),_,rfl,_,_,_,_,rfl,rfl,SqT.of (t2 _ _ z1),at0',_,rfl,_,_,_,_,rfl,rfl,SqT.of (t2 _ _ z1),at1',_,rfl,_,rfl,(by show 3<=sizeLine;decide),fun c fc=>?_⟩
    have t3:=same_new fc (HO.tup [.str "part",.int (n:Nat),.int (i:Nat)])
    have z3:upd J2 c (HO.tup [.str "part",.int (n:Nat),.int (i:Nat)]) c=some _:=upd_same
    generalize upd J2 c (HO.tup [.str "part",.int (n:Nat),.int (i:Nat)])=J3 at t3 z3 |-
    have s3:=s2.trans t3
    have k3:=k2.same t3
    have hxt:TermAt J3 x ps[i]:=by
      have h1:=m1.at i hi hi1
      rw [(List.getElem?_eq_some_iff.mp hxi).2] at h1
      exact h1.mono (hts.trans (.of t3))
    have hyt:TermAt J3 y qs[i]:=by
      have h1:=m2.at i (by omega) hi2
      rw [(List.getElem?_eq_some_iff.mp hyi).2] at h1
      exact h1.mono (hts.trans (.of t3))
    have hlead:Leads (fs'.map (·.1)) g (.part (n:Nat) (i:Nat)) (ps[i],qs[i]):=leads_part (hext.get hx) hl (List.getElem?_eq_getElem hi1) (List.getElem?_eq_getElem hi2)
    refine ⟨p,dx,L,O,g,U,fs',on,cl,N+i,x,y,c,ps[i],qs[i],.part (n:Nat) (i:Nat),rfl,k3,hxt,hyt,z3,hlead,hpU _ (List.getElem_mem hi1),hqU _ (List.getElem_mem hi2),by omega,fun J4 f4 k4=>?_⟩
    have glp4:=k3.lst f4 (t3 _ _ glp2) npL
    have hnl:(natL ns).length<=i:=by
      have:=Paired.length hns
      rw [List.length_take] at this
      simp only [natL,zLM]
      omega
    refine ⟨lp,_,_,rfl,rfl,glp4,big (by omega),?_⟩
    have hzi:i<(ps.zip qs).length:=by rw [List.length_zip];omega
    refine ⟨_,_,ns++[fs'.length],fs'++[((ps[i],qs[i]),.part (n:Nat) (i:Nat))],rfl,?_,by rw [upd_same];simp [natL],(k4.put glp4 npL),hext.trans .one,?_,?_⟩
    · intro b o e h1 h2 h3
      rw [upd_ne (ne_of_none e flp)]
      exact f4 _ _ (s3 _ _ (fX b o e h1 h2 h3)) h1 h2 h3
    · rw [(k3.st.add hlead (hpU _ (List.getElem_mem hi1)) (hqU _ (List.getElem_mem hi2))).2,hnx]
    · rw [List.take_succ_eq_append_getElem hzi]
      exact paired_snoc hns.app ⟨_,last_get _ _,by rw [List.getElem_zip]⟩
  · rintro σ HX ⟨o4,o5,ns,fs',rfl,fX,glp,kX,hext,hnx,hns⟩
    rw [List.take_of_length_le (by rw [List.length_zip];omega)] at hns
    refine ⟨_,rfl,lp,natL ns,rfl,SqL.of glp,fun l fl=>?_⟩
    have t1:=same_new fl (HO.lst (natL ns).reverse)
    exact q l ns.reverse _ fs' (fX.trans (.of t1)) (kX.same t1) hext hnx (kX.free fX fl) (by rw [upd_same];simp [natL,List.map_reverse]) (prd_rev hns)
def Shut (fs:List Lf) (cl:V):Prop:=∃ (m:Nat) (z:Lf),cl=.int (m:Nat)/\fs[m]?=some z/\Clash z.1.1 z.1.2
def spLed (C:Addr):Sp:=fun vs H Q _=>∃ (p dx L O:Addr) (g:Ln) (U:List Tm) (fs:List Lf) (on:On) (N n:Nat) (x:Lf) (pd:List Ln),vs=[.ref p,.int (n:Nat)]/\RK C p dx L O g U H fs on .non N/\fs[n]?=some x/\UInv g (nxOf fs on) (pd++[x.1])/\(∀ w ps,Tm.thing w ps∈U->∀ q∈ps,q∈U)/\N+8 * U.length+100<=90000 /\
  ∀ (l:Addr) (ns:List Nat) (pdn:List Ln) H' fs' on' cl',Fr3 p L O H H'->RK C p dx L O g U H' fs' on' cl' (N+8 * U.length+100)->Ext fs fs'->H l=none->H' l=some (.lst (natL ns))->NumsAt fs' ns pdn->ns.length<=90 ->
    ((cl'=.non/\UInv g (nxOf fs' on') (pd++pdn)/\meas U (nxOf fs' on')+pdn.length<=meas U (nxOf fs on))\/Shut fs' cl')->Q (.ref l) H'
theorem ok_led_together {f:Addr}{fd:FuncData}(F:Fun K "led_together" "Reckoning.led_together" s_Reckoning_led_together f fd) (R:RG K C) (c_same:Cal P w K mg base 2 "same" ["one","other"] spSame) (c_head:Cal P w K mg base 1 "head" ["term"] spHd) (m_end_of:Mtd P w K mg base 5 C "end_of" ["self","term"] (spEnd C)) (m_between_ends:Mtd P w K mg base 5 C "between_ends" ["self","number"] (spBetween C))
    (m_lead_on:Mtd P w K mg base 3 C "lead_on" ["self","number"] (spLead C)) (m_turned:Mtd P w K mg base 2 C "turned" ["self","number"] (spTurned C)) (m_part_lines:Mtd P w K mg base 2 C "part_lines" ["self","number"] (spPartL C)) :
    FnOk P w K mg base CX0 6 f fd ["self","number"] (spLed C):=by
  refine F.ok sc_Reckoning_led_together (fun vs H Q E h=>?_) (fun cdv A outer s H vs Q E hr h=>?_)
  · obtain ⟨_,_,_,_,_,_,_,_,_,_,_,_,rfl,_⟩:=h
    rfl
  obtain ⟨p,dx,L,O,g,U,fs,on,N,n,x,pd,rfl,hk,hx,hinv,hcl,hN,q⟩:=h
  have hun:=hr.un
  obtain ⟨ls,gL,hls⟩:=hk.ls
  obtain ⟨la,u1,v1,r1,hat,hla,hr',hu1,hv1⟩:=lf_get hls hx
  have hin:=hk.st.inU x (List.mem_of_getElem? hx)
  obtain ⟨k,a,hra⟩:=hinv.tot x.1.1
  obtain ⟨j,b,hrb⟩:=hinv.tot x.1.2
  have haU:=rch_inU hk.st hra hin.1
  have hbU:=rch_inU hk.st hrb hin.2
  refine ⟨_,(pss_cons (ps_set (i:=2) sc_Reckoning_led_together.nd rfl (Or.inl rfl) (pe_ix ix_list (pe_fld (pv 0) rfl) (pv 1) (fun _ _=>rfl)))
      (pss_cons (ps_if (pt_val (pe_cal c_same (hr.mono (by decide)) (pa_cons (pe_mt m_end_of (hr.mono (by decide)) (pv 0) (pa_cons (pe_ix ix_tup (pv 2) pe_int (fun _ _=>rfl)) pa_nil)) (pa_cons (pe_mt m_end_of (hr.mono (by decide)) (pv 0) (pa_cons (pe_ix ix_tup (pv 2) pe_int (fun _ _=>rfl)) pa_nil)) pa_nil)))) (pss_one (ps_ret (pe_lst pa_nil))) pss_nil)
      (pss_cons (ps_set (i:=3) sc_Reckoning_led_together.nd rfl (Or.inl rfl) (pe_mt m_between_ends (hr.mono (by decide)) (pv 0) (pa_cons (pv 1) pa_nil)))
      (pss_cons (ps_set (i:=4) sc_Reckoning_led_together.nd rfl (Or.inl rfl) (pe_ix ix_tup (pe_ix ix_list (pe_fld (pv 0) rfl) (pv 3) (fun _ _=>rfl)) pe_int (fun _ _=>rfl)))
      (pss_cons (ps_set (i:=5) sc_Reckoning_led_together.nd rfl (Or.inl rfl) (pe_ix ix_tup (pe_ix ix_list (pe_fld (pv 0) rfl) (pv 3) (fun _ _=>rfl)) pe_int (fun _ _=>rfl)))
      (pss_cons (ps_if (pt_cmpR op_eq (pe_ix ix_tup (pv 4) pe_int (fun _ _=>rfl)) pe_str (nomark _)) (pss_cons (ps_expr (pe_mt m_lead_on (hr.mono (by decide)) (pv 0) (pa_cons (pv 3) pa_nil)))
        (pss_one (ps_ret (pe_lst pa_nil)))) pss_nil)
      (pss_cons (ps_if (pt_cmpR op_eq (pe_ix ix_tup (pv 5) pe_int (fun _ _=>rfl)) pe_str (nomark _)) (pss_cons (ps_expr (pe_mt m_lead_on (hr.mono (by decide)) (pv 0) (pa_cons (pe_mt m_turned (hr.mono (by decide)) (pv 0) (pa_cons (pv 3) pa_nil)) pa_nil)))
        (pss_one (ps_ret (pe_lst pa_nil)))) pss_nil)
      (pss_cons (ps_if (pt_cmpR op_neT (pe_cal c_head (hr.mono (by decide)) (pa_cons (pv 4) pa_nil)) (pe_cal c_head (hr.mono (by decide)) (pa_cons (pv 5) pa_nil)) (nomark _)) (pss_cons (ps_fld (pv 0) (pv 3) rfl)
        (pss_one (ps_ret (pe_lst pa_nil)))) pss_nil)
      (pss_cons (ps_expr (pe_mt m_lead_on (hr.mono (by decide)) (pv 0) (pa_cons (pv 3) pa_nil)))
      (pss_one (ps_ret (pe_mt m_part_lines (hr.mono (by decide)) (pv 0) (pa_cons (pv 3) pa_nil))))))))))))),?_⟩
  refine ⟨_,rfl,p,C,dx,_,_,rfl,hk.self,R.cl,R.nl,lk_lines,_,rfl,L,_,_,_,rfl,rfl,SqL.of gL,hat,?_⟩
  refine ⟨_,rfl,p,dx,_,rfl,hk.self,lk_none (by decide +kernel) (by decide +kernel) (by decide +kernel),_,rfl,_,_,_,_,rfl,rfl,SqT.of hla,at0',p,dx,L,O,g,U,fs,on,.non,N,u1,x.1.1,a,k,rfl,hk,hu1,hin.1,hra,by omega,fun va H1 fs1 on1 f1 k1 hext1 hkeep1 hva=>?_⟩
  have t1:=hk.ts f1
  obtain ⟨j1,hrb1⟩:=hkeep1.rch _ _ _ hrb
  refine ⟨_,rfl,p,dx,_,rfl,k1.self,lk_none (by decide +kernel) (by decide +kernel) (by decide +kernel),_,rfl,_,_,_,_,rfl,rfl,SqT.of (t1 _ _ hla),at1',p,dx,L,O,g,U,fs1,on1,.non,_,v1,x.1.2,b,j1,rfl,k1,hv1.mono t1,hin.2,hrb1,by omega,fun vb H2 fs2 on2 f2 k2 hext2 hkeep2 hvb=>?_⟩
  have hext:=hext1.trans hext2
  have hkeep:=hkeep1.trans hkeep2
  have f12:=f1.trans f2
  have hinv2:=hkeep.inv _ hinv
  obtain ⟨k2',hra2⟩:=hkeep.rch _ _ _ hra
  obtain ⟨j2',hrb2⟩:=hkeep.rch _ _ _ hrb
  have hna:=(hk.ok a haU).2
  refine ⟨va,vb,a,b,rfl,hva.mono (k1.ts f2),hvb,by omega,fun bb H3 s3 hbb=>⟨_,rfl,ite2 (fun c=>?_) (fun c=>?_)⟩⟩
  · have hab:a=b:=hbb.mp c
    subst hab
    refine ⟨(by show 0<=sizeLine;decide),fun l fl=>?_⟩
    have t4:=same_new fl (HO.lst [])
    have f4:=f12.trans (.of (s3.trans t4))
    refine q l [] [] _ fs2 on2 .non f4 ((k2.same (s3.trans t4)).more (by omega)) hext ((k2.same s3).free (f12.trans (.of s3)) fl) upd_same .nil (by simp) (.inl ⟨rfl,?_,?_⟩)
    · rw [List.append_nil];exact hinv2.done hra2 hrb2
    · rw [meas_keep hkeep];simp
  have hab:a≠b:=fun z=>c (hbb.mpr z)
  have k3:=k2.same s3
  have f3:=f12.trans (.of s3)
  refine ⟨_,rfl,p,dx,_,rfl,k3.self,lk_none (by decide +kernel) (by decide +kernel) (by decide +kernel),_,rfl,p,dx,L,O,g,U,fs2,on2,.non,_,n,x,a,b,k2',j2',rfl,k3,hext.get hx,hra2,hrb2,by omega,fun m z H4 fs4 on4 f4 k4 hext4 hkeep4 hz ez=>?_⟩
  have hextA:=hext.trans hext4
  have hkeepA:=hkeep.trans hkeep4
  have fA:=f3.trans f4
  have hinv4:=hkeepA.inv _ hinv
  obtain ⟨k4',hra4⟩:=hkeepA.rch _ _ _ hra
  obtain ⟨j4',hrb4⟩:=hkeepA.rch _ _ _ hrb
  obtain ⟨ls4,gL4,hls4⟩:=k4.ls
  obtain ⟨lb,y1,y2,r4,hat4,hlb,hr4,hy1,hy2⟩:=lf_get hls4 hz
  rw [ez] at hy1 hy2
  refine ⟨_,rfl,p,C,dx,_,_,rfl,k4.self,R.cl,R.nl,lk_lines,_,rfl,L,_,_,_,rfl,rfl,SqL.of gL4,hat4,_,_,_,_,rfl,rfl,SqT.of hlb,at0',?_⟩
  refine ⟨_,rfl,p,C,dx,_,_,rfl,k4.self,R.cl,R.nl,lk_lines,_,rfl,L,_,_,_,rfl,rfl,SqL.of gL4,hat4,_,_,_,_,rfl,rfl,SqT.of hlb,at1',?_⟩
  obtain ⟨c1,xs1,kk1,rfl,e1,hB1,hT1⟩:=hy1.kind
  obtain ⟨c2,xs2,kk2,rfl,e2,hB2,hT2⟩:=hy2.kind
  have ez1:z.1.1=a:=by rw [ez]
  have ez2:z.1.2=b:=by rw [ez]
  refine ⟨_,rfl,_,_,_,_,rfl,rfl,SqT.of e1,at0',rfl,_,rfl,ite2 (fun cB=>?_) (fun cB=>?_)⟩
  · have nb:isB a=true:=hB1.mp (by simpa using cB)
    refine ⟨_,rfl,p,dx,_,rfl,k4.self,lk_none (by decide +kernel) (by decide +kernel) (by decide +kernel),_,rfl,p,dx,L,O,g,U,fs4,on4,.non,_,m,z,rfl,k4,hz,by omega,fun H5 f5 k5=>?_⟩
    refine ⟨(by show 0<=sizeLine;decide),fun l fl=>?_⟩
    have t6:=same_new fl (HO.lst [])
    refine q l [] [] _ fs4 _ .non ((fA.trans f5).trans (.of t6)) ((k5.same t6).more (by omega)) hextA (k5.free (fA.trans f5) fl) upd_same .nil (by simp) (.inl ⟨rfl,?_,?_⟩)
    · rw [List.append_nil,(k4.st.lead hz).2,ez1,ez2]
      exact hinv4.join hra4 hrb4 hab (.inl ⟨rfl,rfl⟩) (fun _ h=>h) (.inl nb)
    · rw [(k4.st.lead hz).2,ez1,ez2,<- meas_keep (U:=U) hkeepA]
      have:=meas_put (U:=U) (d:=b) hra4.end' haU
      simp only [zLN]
      omega
  have nba:isB a=false:=Bool.eq_false_iff.mpr fun y=>cB (by simpa using hB1.mpr y)
  refine ⟨_,rfl,_,_,_,_,rfl,rfl,SqT.of e2,at0',rfl,_,rfl,ite2 (fun cC=>?_) (fun cC=>?_)⟩
  · have nb:isB b=true:=hB2.mp (by simpa using cC)
    have hzU:=k4.st.inU z (List.mem_of_getElem? hz)
    refine ⟨_,rfl,p,dx,_,rfl,k4.self,lk_none (by decide +kernel) (by decide +kernel) (by decide +kernel),_,rfl,p,dx,_,rfl,k4.self,lk_none (by decide +kernel) (by decide +kernel) (by decide +kernel),_,rfl,p,dx,L,O,g,U,fs4,on4,.non,_,m,z,rfl,k4,hz,by omega,fun H5 f5 k5=>?_⟩
    refine ⟨p,dx,L,O,g,U,_,on4,.non,_,fs4.length,_,rfl,k5,last_get _ _,by omega,fun H6 f6 k6=>?_⟩
    refine ⟨(by show 0<=sizeLine;decide),fun l fl=>?_⟩
    have t6:=same_new fl (HO.lst [])
    have f46:=fA.trans (f5.trans f6)
    have e5:=(k4.st.add (leads_turn (g:=g) hz) hzU.2 hzU.1).2
    have e6:=(k5.st.lead (last_get _ _)).2
    refine q l [] [] _ _ _ .non (f46.trans (.of t6)) ((k6.same t6).more (by omega)) (hextA.trans .one) (k6.free f46 fl) upd_same .nil (by simp) (.inl ⟨rfl,?_,?_⟩)
    · rw [List.append_nil,e6,e5]
      simp only [ez1,ez2]
      exact hinv4.join hra4 hrb4 hab (.inr ⟨rfl,rfl⟩) (fun _ h=>h) (.inl nb)
    · rw [e6,e5,<- meas_keep (U:=U) hkeepA]
      simp only [ez1,ez2]
      have:=meas_put (U:=U) (d:=a) hrb4.end' hbU
      simp only [zLN]
      omega
  have nbb:isB b=false:=Bool.eq_false_iff.mpr fun y=>cC (by simpa using hB2.mpr y)
  have hdd:=hdL_dep a
  refine ⟨_,rfl,_,a,rfl,hy1,fun w1 H5 s5 d1=>⟨_,rfl,_,b,rfl,hy2.mono (.of s5),fun w2 H6 s6 d2=>⟨hdL a,hdL b,d1.same s6,d2,(by show (A.deeper _).units+_<cLine;omega),fun b3 hb3=>⟨_,rfl,ite2 (fun cD=>?_) (fun cD=>?_)⟩⟩⟩⟩
  · have hne:=hb3.mp cD
    have s56:=s5.trans s6
    have k6:=k4.same s56
    obtain ⟨npL,npO,nLO⟩:=k6.ne
    refine ⟨_,rfl,_,rfl,p,C,dx,_,rfl,k6.self,R.cl,R.nc,(by show 3<1000;decide),?_⟩
    rw [put_clash]
    have k7:RK C p dx L O g U (upd H6 p (HO.ins C dx (flRk L O (.int (m:Nat))))) fs4 on4 (.int (m:Nat)) (N+8 * U.length+100):=by
      have kk:=k6.more (M:=N+8 * U.length+100) (by omega)
      obtain ⟨l6,g6,h6⟩:=kk.ls
      obtain ⟨kv,g7,h7⟩:=kk.dic
      have kt:TSame H6 (upd H6 p (HO.ins C dx (flRk L O (.int (m:Nat))))):=fun bq ys y=>by rw [upd_ne (ne_of y kk.self (by intro z;cases z))];exact y
      exact ⟨upd_same,⟨l6,by rw [upd_ne npL.symm];exact g6,LfAt.mono kt h6⟩,⟨kv,by rw [upd_ne npO.symm];exact g7,h7⟩,kk.len,kk.st,kk.ok⟩
    have f7:Fr3 p L O H (upd H6 p (HO.ins C dx (flRk L O (.int (m:Nat))))):=fun bq o y h1 h2 h3=>by rw [upd_ne h1];exact s56 _ _ (fA _ _ y h1 h2 h3)
    generalize upd H6 p (HO.ins C dx (flRk L O (.int (m:Nat))))=H7 at k7 f7 |-
    refine ⟨(by show 0<=sizeLine;decide),fun l fl=>?_⟩
    have t8:=same_new fl (HO.lst [])
    exact q l [] [] _ fs4 on4 (.int (m:Nat)) (f7.trans (.of t8)) (k7.same t8) hextA (k7.free f7 fl) upd_same .nil (by simp) (.inr ⟨m,z,rfl,hz,by rw [ez1,ez2];exact ⟨nba,nbb,hne⟩⟩)
  · have heq:hdL a=hdL b:=Classical.byContradiction fun y=>cD (hb3.mpr y)
    obtain ⟨w3,ps,qs,ea,eb,hlp⟩:∃ w ps qs,a=.thing w ps/\b=.thing w qs/\ps.length=qs.length:=by
      rcases hdL_eq heq with y | y
      · exact absurd y hab
      · exact y
    have s56:=s5.trans s6
    have k6:=k4.same s56
    have f6:=fA.trans (.of s56)
    refine ⟨_,rfl,p,dx,_,rfl,k6.self,lk_none (by decide +kernel) (by decide +kernel) (by decide +kernel),_,rfl,p,dx,L,O,g,U,fs4,on4,.non,_,m,z,rfl,k6,hz,by omega,fun H7 f7 k7=>?_⟩
    have hpn:ps.length<=90:=by
      have:=(hk.ok a haU).2
      have:=len_le_nodes ps
      rw [ea] at *
      simp only [Tm.nodes] at *
      omega
    have f67:=f6.trans f7
    refine ⟨_,rfl,p,dx,_,rfl,k7.self,lk_none (by decide +kernel) (by decide +kernel) (by decide +kernel),_,rfl,p,dx,L,O,g,U,fs4,_,.non,_,m,w3,ps,qs,z.2,rfl,k7,?_,hlp,by omega,fun y hy=>hcl w3 ps (ea▸haU) y hy,fun y hy=>hcl w3 qs (eb▸hbU) y hy,fun l ns H8 fs8 f8 k8 hext8 hnx8 fl gl hns=>?_⟩
    · rw [hz,<- ea,<- eb,<- ez]
    · refine q l ns (ps.zip qs).reverse H8 fs8 _ .non (f67.trans f8) (k8.more (by omega)) (hextA.trans hext8) (k7.free f67 fl) gl hns (by have:=Paired.length hns;rw [List.length_reverse,List.length_zip] at this;omega) (.inl ⟨rfl,?_,?_⟩)
      · rw [hnx8,(k4.st.lead hz).2,ez1,ez2]
        refine hinv4.join hra4 hrb4 hab (.inl ⟨rfl,rfl⟩) (fun _ h=>List.mem_append_left _ h) (.inr ⟨w3,ps,qs,ea,eb,hlp,fun y hy=>.inl (List.mem_append_right _ (List.mem_reverse.mpr hy))⟩)
      · rw [hnx8,(k4.st.lead hz).2,ez1,ez2,<- meas_keep (U:=U) hkeepA]
        have:=meas_put (U:=U) (d:=b) hra4.end' haU
        rw [List.length_reverse,List.length_zip]
        have ear:ar a=ps.length:=by rw [ea];rfl
        omega
def spWork (C:Addr):Sp:=fun vs H Q _=>∃ (p dx L O:Addr) (g:Ln),vs=[.ref p]/\RK C p dx L O g (parts2 g) H [(g,.giv)] (fun _=>none) .non 1/\g.1.nodes+g.2.nodes<=80 /\
  ∀ H' fs' on' cl',Fr3 p L O H H'->RK C p dx L O g (parts2 g) H' fs' on' cl' 60000->((cl'=.non/\UInv g (nxOf fs' on') [])\/Shut fs' cl')->Q .non H'
theorem ok_work_out {f:Addr}{fd:FuncData}(F:Fun K "work_out" "Reckoning.work_out" s_Reckoning_work_out f fd) (R:RG K C) (m_led_together:Mtd P w K mg base 6 C "led_together" ["self","number"] (spLed C)):FnOk P w K mg base CX0 7 f fd ["self"] (spWork C):=by
  refine F.ok sc_Reckoning_work_out (fun vs H Q E h=>?_) (fun cdv A outer s H vs Q E hr h=>?_)
  · obtain ⟨_,_,_,_,_,rfl,_⟩:=h
    rfl
  obtain ⟨p,dx,L,O,g,rfl,hk,hsz,q⟩:=h
  have hUl:(parts2 g).length<=80:=by unfold parts2;rw [zLA,len_rp,len_rp];exact hsz
  have hms:=meas_start g
  refine ⟨_,(pss_cons (ps_set (i:=1) sc_Reckoning_work_out.nd rfl (Or.inl rfl) (pe_lst (pa_cons pe_int pa_nil)))
      (pss_one (ps_while PassesOwn.never (pw_and (pt_truth (pv 1) (fun _=>rfl)) (pw_and1 (pt_cmpR op_isN (pe_fld (pv 0) rfl) pe_non (nomark _)))).pt (pss_cons (ps_set (i:=2) sc_Reckoning_work_out.nd rfl (Or.inl rfl) (pe_bm0 PySem.F.plainAttrs_list PySem.F.slot_list_pop PySem.F.type_list_pop mt_pop (pv 1)))
        (pss_one (ps_expr (pe_bm PySem.F.plainAttrs_list PySem.F.slot_list_extend PySem.F.type_list_extend mt_extend (pv 1) (pa_cons (pe_mt m_led_together (hr.mono (by decide)) (pv 0) (pa_cons (pv 2) pa_nil)) pa_nil)))))))),?_⟩
  refine ⟨(by show 1<=sizeLine;decide),fun lc flc=>?_⟩
  have s1:=same_new flc (HO.lst [.int 0])
  have x1:upd H lc (HO.lst [.int 0]) lc=some _:=upd_same
  generalize upd H lc (HO.lst [.int 0])=H1 at s1 x1 |-
  obtain ⟨ls,gL,_⟩:=hk.ls
  have nlL:lc≠L:=fun z=>by rw [z,gL] at flc;cases flc
  have nx0:nxOf [(g,RI.giv)] (fun _=>none)=fun _=>none:=rfl
  refine ⟨fun m σ HA=>∃ (o2:Option V) (ns:List Nat) (pd:List Ln) (fs:List Lf) (on:On) (cl:V),σ=[some (.ref p),some (.ref lc),o2]/\m<=80/\Fr3 p L O H HA/\HA lc=some (.lst (natL ns))/\ns.length<=1+(80 - m) * 90/\RK C p dx L O g (parts2 g) HA fs on cl (1+(80 - m) * 740)/\NumsAt fs ns pd/\((cl=.non/\UInv g (nxOf fs on) pd/\meas (parts2 g) (nxOf fs on)+pd.length<=m)\/Shut fs cl),
    ⟨80,none,[0],[g],[(g,.giv)],fun _=>none,.non,rfl,Nat.le_refl _,.of s1,x1,by simp,(hk.same s1).more (by omega),.cons ⟨_,rfl,rfl⟩ .nil,.inl ⟨rfl,by rw [nx0];exact UInv.start g,by rw [nx0];simp;omega⟩⟩,?_⟩
  rintro m σ HA ⟨o2,ns,pd,fs,on,cl,rfl,hm80,fA,gA,hnl,kA,hns,hst⟩
  refine ⟨_,rfl,_,.inl ⟨_,SqL.of gA,rfl⟩,ite2 (fun c=>?_) (fun c=>iteF ?_)⟩
  · refine ⟨_,rfl,p,C,dx,_,_,rfl,kA.self,R.cl,R.nc,lk_clash,rfl,_,rfl,ite2 (fun c2=>⟨_,fun _ _ h=>h,?_⟩) (fun c2=>?_)⟩
    · rcases hst with ⟨rfl,hinv,hmeas⟩ | ⟨m0,z,rfl,_⟩
      · have hne:ns≠[]:=by intro z;rw [z] at c;simp [natL] at c
        have hlen:=Paired.length hns
        obtain ⟨ns0,n,rfl⟩:=snoc_of hne
        obtain ⟨pd0,p0,rfl⟩:=snoc_of (l:=pd) (by intro z;rw [z] at hlen;simp at hlen)
        obtain ⟨hns0,x,hx,ex⟩:=prd_unsnoc hns
        have hm1:1<=m:=by rw [zLA] at hmeas;simp at hmeas;omega
        have enat:natL (ns0++[n])=natL ns0++[.int (n:Nat)]:=by simp [natL]
        rw [enat] at gA
        refine ⟨_,rfl,.inl ⟨rfl,_,SqL.of gA⟩,lc,_,.int (n:Nat),rfl,rfl,gA,by simp,?_⟩
        rw [List.dropLast_concat]
        have kB:=kA.put (ys:=natL ns0) gA nlL
        have gB:upd HA lc (HO.lst (natL ns0)) lc=some _:=upd_same
        have fB:Fr3 p L O H (upd HA lc (HO.lst (natL ns0))):=fun b o y h1 h2 h3=>by rw [upd_ne (ne_of_none y flc)];exact fA _ _ y h1 h2 h3
        generalize upd HA lc (HO.lst (natL ns0))=HB at kB gB fB |-
        rw [<- ex] at hinv
        refine ⟨_,rfl,.inl ⟨rfl,_,SqL.of gB⟩,_,rfl,p,dx,_,rfl,kB.self,lk_none (by decide +kernel) (by decide +kernel) (by decide +kernel),_,rfl,p,dx,L,O,g,parts2 g,fs,on,_,n,x,pd0,rfl,kB,hx,hinv,fun w ps h q hq=>parts2_part h hq,?_,fun l ns1 pdn HC fs' on' cl' fC kC hextC fl gl hns1 hnew hst'=>?_⟩
        · have:(80 - m) * 740<=80 * 740:=Nat.mul_le_mul_right _ (by omega)
          omega
        · have gC:=kB.lst fC gB nlL
          have hpl:pdn.length<=90\/True:=.inr trivial
          have hn1:=Paired.length hns1
          have hlen1:=hnew
          have hlc:l≠lc:=fun z=>by rw [z,gB] at fl;cases fl
          refine ⟨lc,l,natL ns0,natL ns1,rfl,rfl,gC,gl,small (by simp only [natL,zLM];rw [zLA] at hnl;have:(80 - m) * 90<=80 * 90:=Nat.mul_le_mul_right _ (by omega);omega),?_⟩
          have e1:(80 - (m - 1))=(80 - m)+1:=by omega
          refine ⟨m - 1,by omega,_,ns0++ns1,pd0++pdn,fs',on',cl',rfl,by omega,fun b o y h1 h2 h3=>by rw [upd_ne (ne_of_none y flc)];exact fC _ _ (fB _ _ y h1 h2 h3) h1 h2 h3,by rw [upd_same];simp [natL],?_,(kC.put gC nlL).more ?_,prd_app (hextC.nums hns0) hns1,?_⟩
          · rw [e1,Nat.add_mul,zLA]
            rw [zLA] at hnl
            simp only [zLC,zLN] at hnl
            omega
          · rw [e1,Nat.add_mul]
            omega
          · refine hst'.imp (fun ⟨h1,h2,h3⟩=>⟨h1,h2,?_⟩) id
            rw [zLA] at hmeas |-
            simp only [zLC,zLN] at hmeas
            omega
      · simp at c2
    · refine q HA fs on cl fA (kA.more ?_) (.inr ?_)
      · have:(80 - m) * 740<=80 * 740:=Nat.mul_le_mul_right _ (by omega)
        omega
      · rcases hst with ⟨rfl,_⟩ | z
        · simp at c2
        · exact z
  · refine q HA fs on cl fA (kA.more ?_) (hst.imp (fun ⟨h1,h2,_⟩=>⟨h1,?_⟩) id)
    · have:(80 - m) * 740<=80 * 740:=Nat.mul_le_mul_right _ (by omega)
      omega
    · have e0:ns=[]:=by
        cases ns with
        | nil=>rfl
        | cons a b=>exact absurd (by simp [natL]) c
      subst e0
      have hlen:=Paired.length hns
      have e1:pd=[]:=List.length_eq_zero_iff.mp hlen.symm
      subst e1
      exact h2
end
end K08
namespace BF
open PySem PySem.Spec PyProof.Rows L2
open Sem (wp)
section
variable {X:Cx}{pins:List (Addr×Obj)}{σ:L2.St}{H:Hp}{s:Shared}{a:Addr}{kvs:List (Key×V)}
theorem inv_swap {u u':HO}(I:Inv X pins σ H s) (ha:H a=some u) (ht:∀ xs,u≠.tup xs) (ho:∀ y,u≠.own y) (hb:∀ ps,u≠.tbl ps) (hf:∀ o v,X.H₀ a≠some (.frz o v)) (new:ObjOk X.prog X.w (upd H a u') s.heap a u'):Inv X pins σ (upd H a u') s:=by
  have ne:∀ b,H b=none->b≠a:=fun b e z=>by rw [z,ha] at e;cases e
  refine ⟨I.ok,I.os,I.bare,⟨I.base.keep,I.base.slot,fun b o e n hx=>?_,I.base.there,fun b xs e=>?_,fun b o v e=>?_,fun b ps e=>?_⟩,I.loc,I.cell,?_,fun x c e=>?_,fun p hp=>?_,fun b o e=>?_,I.len⟩
  · have z:=I.base.free b o e n hx
    rw [upd_ne (ne b z)];exact z
  · have z:=I.base.tups b xs e
    rw [upd_ne (fun y=>by rw [y,ha] at z;exact ht xs (Option.some.inj z))];exact z
  · have z:=I.base.frzs b o v e
    rw [upd_ne (fun (y:b=a)=>hf o v (by rw [<- y];exact e))];exact z
  · obtain ⟨more,z⟩:=I.base.tbls b ps e
    exact ⟨more,by rw [upd_ne (fun y=>by rw [y,ha] at z;exact hb _ (Option.some.inj z))];exact z⟩
  · rw [upd_ne (ne _ I.free)];exact I.free
  · have z:=I.freeC x c e
    rw [upd_ne (ne _ z)];exact z
  · obtain ⟨h1,h2,h3⟩:=I.pin p hp
    exact ⟨h1,by rw [upd_ne (ne _ h2)];exact h2,h3⟩
  · by_cases c:b=a
    · subst c
      rw [upd_same] at e
      cases e
      exact new
    · rw [upd_ne c] at e
      refine (I.hok b o e).stay (fun _ _ _ q=>q) (fun c' q=>?_) (fun c' xs q=>?_)
      · rw [upd_ne (fun y=>by rw [y,ha] at q;exact ho _ (Option.some.inj q))];exact q
      · rw [upd_ne (fun y=>by rw [y,ha] at q;exact ht _ (Option.some.inj q))];exact q
theorem inv_unf (I:Inv X pins σ H s) (ha:H a=some (.dK kvs)):∀ o v,X.H₀ a≠some (.frz o v):=fun o v e=>by
  have:=I.base.frzs a o v e
  rw [ha] at this
  cases this
theorem inv_freeze (I:Inv X pins σ H s) (ha:H a=some (.dK kvs)):∃ o vs ep,s.heap.get? a=some o/\(a==sysModules)=false/\KV kvs vs/\PySem.W.KdkAt (mixKind X.prog X.w) o vs ep/\Inv X pins σ (upd H a (.frz o (.dK kvs))) s:=by
  obtain ⟨z,lo,vs,rel,dd⟩:=dk_of I.hok ha
  obtain ⟨ep,hat⟩:=dd.dictAt
  obtain ⟨o,es,h1,h2⟩:=id hat
  refine ⟨o,vs,ep,h1,lo,rel,⟨es,h2⟩,inv_swap I ha (fun _ z=>by cases z) (fun _ z=>by cases z) (fun _ z=>by cases z) (inv_unf I ha) ⟨h1,?_⟩⟩
  exact I.hok a _ ha
theorem inv_thaw {o:Obj}(I:Inv X pins σ H s) (ha:H a=some (.frz o (.dK kvs))) (hf:∀ o v,X.H₀ a≠some (.frz o v)):Inv X pins σ (upd H a (.dK kvs)) s :=
  inv_swap I ha (fun _ z=>by cases z) (fun _ z=>by cases z) (fun _ z=>by cases z) hf (I.hok a _ ha).2
theorem inv_frz {o:Obj}{u:HO}(I:Inv X pins σ H s) (ha:H a=some (.frz o u)):s.heap.get? a=some o:=(I.hok a _ ha).1
end
section
variable {X:Cx}
theorem pe_thaw {e:Expr}{te:TE}(h:PE X e te):PE X e (fun σ H Q=>∃ a kvs,H a=some (.dK kvs)/\te σ H fun v H2=>∃ o,H2 a=some (.frz o (.dK kvs))/\Q v (upd H2 a (.dK kvs))):=by
  intro pins s σ H Q I ⟨a,kvs,ha,ht⟩
  have hf:=inv_unf I ha
  refine thn (h pins s σ H _ I ht) fun u s1 ⟨v,H2,I2,r2,o,h2,q2⟩=>⟨v,_,inv_thaw I2 h2 hf,r2,q2⟩
theorem ps_thaw {st:Stmt}{t:TS}(h:PS X st t):PS X st (fun D σ H=>∃ a kvs,H a=some (.dK kvs)/\t { nx:=fun σ' H2=>∃ o,H2 a=some (.frz o (.dK kvs))/\D.nx σ' (upd H2 a (.dK kvs)),rt:=fun _ _=>False } σ H):=by
  intro pins s σ H D I ⟨a,kvs,ha,ht⟩
  have hf:=inv_unf I ha
  refine thn (h pins s σ H _ I ht) fun f s1 q=>?_
  cases f with
  | next =>
    obtain ⟨σ',H2,I2,o,h2,q2⟩:=q
    exact ⟨σ',_,inv_thaw I2 h2 hf,q2⟩
  | brk=>obtain ⟨_,_,_,q2⟩:=q;exact q2.elim
  | cont=>obtain ⟨_,_,_,q2⟩:=q;exact q2.elim
  | ret u=>obtain ⟨_,_,_,_,_,q2⟩:=q;exact q2.elim
end
def Itk (a:Addr) (o:Obj) (kvs:List (Key×V)):It :=
  ⟨fun i H=>H a=some (.frz o (.dK kvs))/\i<kvs.length,fun i H x H'=>H'=H/\∃ kv,kvs[i]?=some kv/\x=kV kv.1,fun i H=>H a=some (.frz o (.dK kvs))/\kvs.length<=i⟩
theorem turn_dict {P:Program}{w:World}{K:PySem.W.Frag}{tg:Expr}(a it:Addr) (o:Obj) (kvs:List (Key×V)) (vs:List (Key×Value)) (ep:Nat) (rel:KV kvs vs) (hat:PySem.W.KdkAt (mixKind P w) o vs ep) :
    Turn P w K tg (Itk a o kvs) [it] it (fun i h=>h.IsKeyIter it a i vs.length ep) where
  mem:=by simp
  obj:=fun i h st b hb=>by
    have e:b=it:=by simpa using hb
    subst e
    obtain ⟨o,e,c,d⟩:=st
    exact ⟨o,e,fun v z=>by rw [d] at z;cases z⟩
  keep:=fun i h h' st k=>by
    obtain ⟨o,e,c,d⟩:=st
    exact ⟨o,k it (by simp) o e,c,d⟩
  item:=by
    intro X hP hw hK hc i pins s σ H E I hf st hg
    subst hP hw hK
    obtain ⟨ha,hi⟩:=hg
    have hget:=inv_frz I ha
    have hl:=rel.length
    have hk:=rel.keys
    obtain ⟨k,x,hx⟩:∃ k x,vs[i]?=some (k,x):=⟨_,_,List.getElem?_eq_getElem (by omega)⟩
    obtain ⟨f0,f1,f2,f3,f4,f5⟩:=hf it (by simp)
    refine wpAny_pyNext_dict_item st (hat.dictAt hget) hx fun key h' hkey st' sb=>?_
    have I1:Inv X pins σ H { s with heap:=h' }:=I.turned (t':=s.toks) (fun b o hb e=>(sb.2 b hb).trans e) f0 f1 f3 f4 f5
    have hkv:kvs[i]?.map (·.1)=some k:=by rw [<- List.getElem?_map,hk,List.getElem?_map,hx];rfl
    rw [List.getElem?_eq_getElem hi] at hkv
    refine ⟨key,rfl,letGo_keyiter (s':={ s with heap:=h' }) st' ⟨kV k,H,I1,key_rel hkey,⟨rfl,_,List.getElem?_eq_getElem hi,by rw [<- Option.some.inj hkv]⟩,st',fun b hb=>(hf b hb).1⟩⟩
  done:=by
    intro X hP hw hK hc i pins s σ H E I hf st hg
    subst hP hw hK
    obtain ⟨ha,hi⟩:=hg
    have hget:=inv_frz I ha
    have hl:=rel.length
    obtain ⟨f0,f1,f2,f3,f4,f5⟩:=hf it (by simp)
    exact wpAny_pyNext_dict_end (I.ok.hd hc) st (hat.dictAt hget) (List.getElem?_eq_none (by omega)) fun h' eb=>⟨rfl,I.turned (t':=s.toks) (fun b o hb e=>eb b o hb e) f0 f1 f3 f4 f5⟩
  self:=fun _ _ _ _ _ st h=>wpAny_pyIter_keyiter st h
def iDict (td:TE):TI:=fun σ H R=>td σ H fun x H1=>∃ a kvs,x=.ref a/\H1 a=some (.dK kvs)/\∀ o,R (Itk a o kvs) (upd H1 a (.frz o (.dK kvs)))
theorem pi_dict {X:Cx}{tg l:Expr}{td:TE}(hl:PE X l td):PI X tg l (iDict td):=by
  intro pins s σ H R I h
  refine thn (hl pins s σ H _ I h) fun v s1 ⟨x,H1,I1,r1,q1⟩=>?_
  obtain ⟨a,kvs,e,hq,q⟩:=q1
  subst e
  cases r1
  obtain ⟨o,vs,ep,hget,lo,rel,hat,I2⟩:=inv_freeze I1 hq
  refine wpAny_pyIter_dict lo (hat.dictAt hget) ?_
  have ha2:upd H1 a (.frz o (.dK kvs)) a=some _:=upd_same
  refine ⟨s1.heap.objs.size,[s1.heap.objs.size],_,_,upd H1 a (.frz o (.dK kvs)),rfl,I2.kept (t':=s1.toks) fun b o e=>Heap.get?_push_of_some _ e,turn_dict a _ o kvs vs ep rel hat,⟨_,Heap.get?_push_size _ rfl,rfl,rfl⟩,fun b hb=>?_,q o⟩
  have e:b=s1.heap.objs.size:=by simpa using hb
  subst e
  exact I2.fpOk (Nat.le_refl _) (I2.hok.fresh (Nat.le_refl _))
theorem comp_dict {a D:Addr}{o:Obj}{kvs:List (Key×V)}{g:TG}{tt:TT}{te:TE}{σ:L2.St}{H:Hp}{Q:Hp->Prop}(Pv:Nat->L2.St->Hp->Prop) (h0:Pv 0 σ H) (hl:∀ i σ H,i<=kvs.length->Pv i σ H->H a=some (.frz o (.dK kvs)))
    (hs:∀ i kv σ H,kvs[i]?=some kv->Pv i σ H->g (kV kv.1) σ H fun σ2 H2=>tt σ2 H2 fun b H3=>if b=true then te σ2 H3 fun y H4=>∃ ys,H4 D=some (.lst ys)/\ys.length<sizeLine/\Pv (i+1) σ2 (upd H4 D (.lst (ys++[y]))) else Pv (i+1) σ2 H3)
    (hd:∀ σ H,Pv kvs.length σ H->Q H):tCompW g tt te (Itk a o kvs) σ H D Q:=by
  refine ⟨fun i m σ H=>m=kvs.length - i/\i<=kvs.length/\Pv i σ H,⟨kvs.length,by simp,Nat.zero_le _,h0⟩,?_⟩
  rintro i m σ H ⟨rfl,hi,p⟩
  have q:=hl i σ H hi p
  by_cases hlt:i<kvs.length
  · refine .inr ⟨⟨q,hlt⟩,Pv (i+1),fun σ' H' p'=>⟨kvs.length - (i+1),by omega,rfl,hlt,p'⟩,fun x H' y=>?_⟩
    obtain ⟨e,kv,hkv,ex⟩:=y
    subst e ex
    exact hs i kv σ _ hkv p
  · have e:i=kvs.length:=by omega
    subst e
    exact .inl ⟨⟨q,Nat.le_refl _⟩,hd σ H p⟩
theorem entry_itemiter_iter:entryFor table "dict_itemiterator.__iter__"=some Builtin.«dict_keyiterator.__iter__» :=
  entryFor_alias (id':="dict_keyiterator.__iter__") (by kernel_rfl) rfl (by decide +kernel) (by kernel_rfl)
theorem pyIter_itemiter {prog:Program}{w:World}{A:Around}{E:Value->Shared->Prop}{s:Shared}{it d:Addr}{i n ep:Nat}{ok ov:Value}{Q:Value->Shared->Prop}(hit:IsItemIter s.heap it d i n ep ok ov) (h:Q (.ref it) s):wpAny (model prog w) A (pyIter (.ref it)) Q E s:=by
  have hT:s.TypeIs (.ref it) "dict_itemiterator":=⟨_,hit,rfl⟩
  refine wpAny_pyIter_slot hT F.slot_dict_itemiterator_iter (wpAny_call_entry F.slot_dict_itemiterator_iter hT entry_itemiter_iter ?_ (F.args_dict_itemiterator_iter_1 _))
  show wpAny _ _ (ret (.ref it)) _ _ s
  exact wpAny_pure ⟨_,rfl,"dict_itemiterator",_,hT,F.slot_dict_itemiterator_next.lookup,h⟩
def Itm (a:Addr) (o:Obj) (kvs:List (Key×V)):It :=
  ⟨fun i H=>H a=some (.frz o (.dK kvs))/\i<kvs.length,fun i H x H'=>∃ kv q,kvs[i]?=some kv/\H q=none/\x=.ref q/\H'=upd H q (.tup [kV kv.1,kv.2]),fun i H=>H a=some (.frz o (.dK kvs))/\kvs.length<=i⟩
theorem turn_items {P:Program}{w:World}{K:PySem.W.Frag}{elts:List Expr}{ek} {epos:Pos}(a it:Addr) (o:Obj) (kvs:List (Key×V)) (vs:List (Key×Value)) (ep:Nat) (rel:KV kvs vs) (hat:PySem.W.KdkAt (mixKind P w) o vs ep) :
    Turn P w K (.Tuple elts ek epos) (Itm a o kvs) [it] it (fun i h=>∃ ok ov,IsItemIter h it a i vs.length ep ok ov) where
  mem:=by simp
  obj := fun i h st b hb=>by
    have e:b=it:=by simpa using hb
    subst e
    obtain ⟨ok,ov,st⟩:=st
    exact ⟨_,st,fun v z=>by
      have z':Data.fields _=Data.cell v:=z
      cases z'⟩
  keep:=fun i h h' st k=>by
    obtain ⟨ok,ov,st⟩:=st
    exact ⟨ok,ov,k it (by simp) _ st⟩
  item:=by
    intro X hP hw hK hc i pins s σ H E I hf st hg
    subst hP hw hK
    obtain ⟨ok,ov,st⟩:=st
    obtain ⟨ha,hi⟩:=hg
    have hget:=inv_frz I ha
    have hl:=rel.length
    have hk:=rel.keys
    obtain ⟨k,x,hx⟩:∃ k x,vs[i]?=some (k,x):=⟨_,_,List.getElem?_eq_getElem (by omega)⟩
    obtain ⟨f0,f1,f2,f3,f4,f5⟩:=hf it (by simp)
    obtain ⟨kv,hkv,hrel⟩:∃ kv,kvs[i]?=some kv/\kv.1=k/\RelV kv.2 x:=by
      obtain ⟨b,hb,e1,e2⟩:=pair_get rel (List.getElem?_eq_getElem hi)
      rw [hx] at hb
      cases hb
      exact ⟨_,List.getElem?_eq_getElem hi,e1,e2⟩
    refine wpAny_pyNext_items_item st (hat.dictAt hget) hx fun key h' hkey st' htup hsz hkeep=>⟨_,rfl,?_⟩
    refine wpAny_letOwnedTupleGo_items (s:={ s with heap:=h' }) st' fun h2 st2 sb2=>?_
    have hne:s.heap.objs.size≠it:=Nat.ne_of_gt (Heap.lt_size st)
    have fr:H s.heap.objs.size=none:=I.hok.fresh (Nat.le_refl _)
    have ru:RelV (kV k) key:=key_rel hkey
    have J:Inv X pins σ (upd H s.heap.objs.size (.tup [kV k,kv.2])) { s with heap:=s.heap.push { cls:=.type "tuple",data:=.seq #[key,x] } } :=
      I.laid (t':=s.toks) (fun b u e=>Heap.get?_push_of_some _ e) (Nat.le_refl _) ⟨by show 2<=sizeLine;decide,[key,x],.cons ru (.cons hrel.2 .nil),⟨_,Heap.get?_push_size _ rfl,rfl,_,rfl⟩⟩
    have hf':∀ b∈[it],FpOk X pins (upd H s.heap.objs.size (.tup [kV k,kv.2])) b:=fun b hb=>by
      have e:b=it:=by simpa using hb
      subst e
      exact ⟨by rw [upd_ne hne.symm];exact f0,(hf b hb).2⟩
    have I2:Inv X pins σ (upd H s.heap.objs.size (.tup [kV k,kv.2])) { s with heap:=h2,toks:=s.toks }:=by
      refine L2.Inv.turnedL (s:={ s with heap:=s.heap.push { cls:=.type "tuple",data:=.seq #[key,x] } }) (t':=s.toks) (ch:=[it]) J (fun c o hc e=>?_) hf'
      have hc':c≠it:=by simpa using hc
      refine (sb2.2 c hc').trans ?_
      by_cases z:c=s.heap.objs.size
      · subst z
        have e':(s.heap.push { cls:=.type "tuple",data:=.seq #[key,x] }).get? s.heap.objs.size=some o:=e
        rw [Heap.get?_push_size _ rfl] at e'
        cases e'
        exact htup
      · have e':(s.heap.push { cls:=.type "tuple",data:=.seq #[key,x] }).get? c=some o:=e
        rw [Heap.get?_push_ne _ _ _ z] at e'
        exact hkeep c o hc' e'
    refine ⟨.ref s.heap.objs.size,_,I2,rfl,⟨kv,s.heap.objs.size,hkv,fr,rfl,by rw [hrel.1]⟩,⟨key,x,st2⟩,fun b hb=>(hf' b hb).1⟩
  done:=by
    intro X hP hw hK hc i pins s σ H E I hf st hg
    subst hP hw hK
    obtain ⟨ok,ov,st⟩:=st
    obtain ⟨ha,hi⟩:=hg
    have hget:=inv_frz I ha
    have hl:=rel.length
    obtain ⟨f0,f1,f2,f3,f4,f5⟩:=hf it (by simp)
    exact wpAny_pyNext_items_end (I.ok.hd hc) st (hat.dictAt hget) (List.getElem?_eq_none (by omega)) fun h' eb=>⟨rfl,I.turned (t':=s.toks) (fun b o hb e=>eb b o hb e) f0 f1 f3 f4 f5⟩
  self:=fun _ _ _ _ _ st h=>by
    obtain ⟨ok,ov,st⟩:=st
    exact pyIter_itemiter st h
def iItems (td:TE):TI:=fun σ H R=>td σ H fun x H1=>∃ a kvs,x=.ref a/\H1 a=some (.dK kvs)/\∀ o,R (Itm a o kvs) (upd H1 a (.frz o (.dK kvs)))
theorem pi_items {X:Cx}{l:Expr}{td:TE}{elts:List Expr}{ek} {epos apos cpos:Pos}(hl:PE X l td) (hbase:attributeBase l "items" X.env (eval l X.env)=eval l X.env:=by rfl) (hline:(apos.endLine==cpos.line)=true:=by rfl) :
    PI X (.Tuple elts ek epos) (.Call (.Attribute l "items" apos) [] [] cpos) (iItems td):=by
  intro pins s σ H R I h
  refine wpAny_Call_method0_late hbase hline (thn (hl pins s σ H _ I h) fun v s1 ⟨x,H1,I1,r1,q1⟩=>?_)
  obtain ⟨a,kvs,e,hq,q⟩:=q1
  subst e
  cases r1
  obtain ⟨o,vs,ep,hget,lo,rel,hat,I2⟩:=inv_freeze I1 hq
  have hm:=(hat.dictAt hget).dictOf
  refine ⟨"dict","dict.items",F.plainAttrs_dict,F.slot_dict_items,F.type_dict_items,hm.typeIs,hm.mapOf.noDict,?_⟩
  show wpAny _ _ (callWith cpos (.builtin "dict.items") [.ref a] [] []) _ _ s1
  refine method_meetsIn F.slot_dict_items F.entry_dict_items rfl (PySem.evalArgs_none ⟨rfl,hm.typeIs,F.args_dict_items_1 _,_,meets_dict_items _ a lo,⟨vs,hm⟩,?_⟩)
  have I3:Inv X pins σ (upd H1 a (.frz o (.dK kvs))) { s1 with heap:=s1.heap.push { cls:=.type "dict_items",data:=.fields #[.ref a] } }:=I2.kept (t':=s1.toks) fun b o e=>Heap.get?_push_of_some _ e
  refine wpAny_pyIter_items (knd:=mixKind X.prog X.w) (d:=a) (kvs:=vs) (ep:=ep) ⟨_,Heap.get?_push_size _ rfl,rfl,rfl⟩ ((hat.dictAt hget).push _) ?_
  refine ⟨_,[_],_,_,upd H1 a (.frz o (.dK kvs)),rfl,I3.kept (t':=s1.toks) fun b o e=>Heap.get?_push_of_some _ e,turn_items a _ o kvs vs ep rel hat,⟨_,_,Heap.get?_push_size _ rfl⟩,fun b hb=>?_,q o⟩
  have e:=List.mem_singleton.mp hb
  subst e
  exact I3.fpOk (Nat.le_refl _) (I3.hok.fresh (Nat.le_refl _))
theorem for_items {a:Addr}{o:Obj}{kvs:List (Key×V)}{g:TG}{tb:TS}{D:Ends}{σ:L2.St}{H:Hp}(Pv:Nat->L2.St->Hp->Prop) (h0:Pv 0 σ H) (hl:∀ i σ H,i<=kvs.length->Pv i σ H->H a=some (.frz o (.dK kvs)))
    (hs:∀ i kv q σ H,kvs[i]?=some kv->Pv i σ H->H q=none->g (.ref q) σ (upd H q (.tup [kV kv.1,kv.2])) fun σ2 H2=>tb { D with nx:=Pv (i+1),ct:=Pv (i+1),bk:=D.nx } σ2 H2) (hd:∀ σ H,Pv kvs.length σ H->D.nx σ H) :
    ∃ W:Nat->Nat->L2.St->Hp->Prop,(∃ m,W 0 m σ H)/\∀ i m σ H,W i m σ H ->
      ((Itm a o kvs).stop i H/\D.nx σ H)\/((Itm a o kvs).go i H/\∃ N:L2.St->Hp->Prop,(∀ σ' H',N σ' H'->∃ m',m'<m/\W (i+1) m' σ' H')/\∀ x H',(Itm a o kvs).yld i H x H'->g x σ H' fun σ2 H2=>tb { D with nx:=N,ct:=N,bk:=D.nx } σ2 H2):=by
  refine ⟨fun i m σ H=>m=kvs.length - i/\i<=kvs.length/\Pv i σ H,⟨kvs.length,by simp,Nat.zero_le _,h0⟩,?_⟩
  rintro i m σ H ⟨rfl,hi,p⟩
  have q:=hl i σ H hi p
  by_cases hlt:i<kvs.length
  · refine .inr ⟨⟨q,hlt⟩,Pv (i+1),fun σ' H' p'=>⟨kvs.length - (i+1),by omega,rfl,hlt,p'⟩,fun x H' y=>?_⟩
    obtain ⟨kv,q0,hkv,hq0,ex,eh⟩:=y
    subst ex eh
    exact hs i kv q0 σ _ hkv p hq0
  · have e:i=kvs.length:=by omega
    subst e
    exact .inl ⟨⟨q,Nat.le_refl _⟩,hd σ H p⟩
end BF
namespace K08
open PySem L2 BF
section
variable {P:Program}{w:World}{K:PySem.W.Frag}{mg:Str->Option Value}{base:Heap}{C:Addr}
structure DS (kvs:List (Key×V)) (ks:List Str):Prop where
  keys:kvs.map (·.1)=ks.map Sum.inr
  nd:ks.Nodup
theorem ds_any {kvs:List (Key×V)}{ks:List Str}(h:DS kvs ks) (x:Str):(kvs.any fun kv=>decide (kv.1=Sum.inr x))=true↔x∈ks:=by
  rw [List.any_eq_true]
  constructor
  · rintro ⟨kv,h1,h2⟩
    have:kv.1∈ks.map Sum.inr:=by rw [<- h.keys];exact List.mem_map.mpr ⟨kv,h1,rfl⟩
    obtain ⟨y,hy,e⟩:=List.mem_map.mp this
    have h3:kv.1=Sum.inr x:=of_decide_eq_true h2
    rw [h3] at e
    exact Sum.inr.inj e▸hy
  · intro hx
    have:(Sum.inr x:Key)∈kvs.map (·.1):=by rw [h.keys];exact List.mem_map.mpr ⟨x,hx,rfl⟩
    obtain ⟨kv,h1,h2⟩:=List.mem_map.mp this
    exact ⟨kv,h1,decide_eq_true h2⟩
theorem DS.put {kvs:List (Key×V)}{ks:List Str}(h:DS kvs ks) (x:Str) (v:V):DS (putK kvs (Sum.inr x) v) (if x∈ks then ks else ks++[x]):=by
  unfold putK
  by_cases c:x∈ks
  · rw [if_pos ((ds_any h x).mpr c),if_pos c]
    refine ⟨?_,h.nd⟩
    rw [List.map_map,<- h.keys]
    refine List.map_congr_left fun kv _=>?_
    simp only [Function.comp]
    split <;> rfl
  · rw [if_neg (fun z=>c ((ds_any h x).mp z)),if_neg c]
    refine ⟨by rw [List.map_append,List.map_append,h.keys];rfl,?_⟩
    rw [List.nodup_append]
    refine ⟨h.nd,by simp,fun a ha b hb=>?_⟩
    rw [List.mem_singleton.mp hb]
    rintro rfl
    exact c ha
theorem DS.get {kvs:List (Key×V)}{ks:List Str}(h:DS kvs ks) {i:Nat}{kv:Key×V}(e:kvs[i]?=some kv):∃ x,ks[i]?=some x/\kv.1=Sum.inr x/\valV kvs (Sum.inr x)=some kv.2:=by
  have h1:(kvs.map (·.1))[i]?=some kv.1:=by rw [List.getElem?_map,e];rfl
  rw [h.keys,List.getElem?_map] at h1
  cases hx:ks[i]? with
  | none=>rw [hx] at h1;cases h1
  | some x =>
    rw [hx] at h1
    have ek:kv.1=Sum.inr x:=(Option.some.inj h1).symm
    refine ⟨x,rfl,ek,?_⟩
    have hk:=h.keys
    have hn:=h.nd
    clear h h1
    induction kvs generalizing ks i with
    | nil=>cases e
    | cons a r ih =>
      cases ks with
      | nil=>cases hx
      | cons y s =>
        simp only [List.map_cons,List.cons.injEq] at hk
        rw [List.nodup_cons] at hn
        cases i with
        | zero =>
          cases e
          rw [valV_cons,if_pos ek]
        | succ j =>
          simp only [List.getElem?_cons_succ] at e hx
          rw [valV_cons,if_neg]
          · exact ih e hx hk.2 hn.2
          · intro z
            rw [hk.1] at z
            exact hn.1 (Sum.inr.inj z▸List.mem_of_getElem? hx)
def spLbw (C:Addr):Sp:=fun vs H Q _=>∃ (p dx L O:Addr) (g:Ln) (U:List Tm) (fs:List Lf) (on:On) (cl:V) (N:Nat) (lw:Addr) (ws:List Str),vs=[.ref p,.ref lw]/\RK C p dx L O g U H fs on cl N/\H lw=some (.lst (ws.map V.str))/\lw≠L/\(∀ x∈ws,Tm.blank x∈U)/\(∀ t,∃ k e,Rch (nxOf fs on) k t e)/\N+ws.length * (2 * U.length)<=90000/\ws.length<=1000 /\
  ∀ (d:Addr) (kvs:List (Key×V)) (ks:List Str) H' fs' on',Fr3 p L O H H'->RK C p dx L O g U H' fs' on' cl (N+ws.length * (2 * U.length))->Ext fs fs'->Keep g (nxOf fs on) (nxOf fs' on')->H d=none->H' d=some (.dK kvs)->DS kvs ks->(∀ x,x∈ks↔x∈ws/\nxOf fs on (.blank x)≠none) ->
    (∀ x∈ks,∃ (n:Nat) (z:Lf) (e:Tm) (k:Nat),valV kvs (Sum.inr x)=some (.int (n:Nat))/\fs'[n]?=some z/\z.1=(.blank x,e)/\Rch (nxOf fs on) k (.blank x) e)->Q (.ref d) H'
theorem ok_lines_by_word {f:Addr}{fd:FuncData}(F:Fun K "lines_by_word" "lines_by_word" s_lines_by_word f fd) (m_line_to_end:Mtd P w K mg base 4 C "line_to_end" ["self","term"] (spToEnd C)):FnOk P w K mg base CX0 5 f fd ["reckoning","words"] (spLbw C):=by
  refine F.ok sc_lines_by_word (fun vs H Q E h=>?_) (fun cdv A outer s H vs Q E hr h=>?_)
  · obtain ⟨_,_,_,_,_,_,_,_,_,_,_,_,rfl,_⟩:=h
    rfl
  obtain ⟨p,dx,L,O,g,U,fs,on,cl,N,lw,ws,rfl,hk,hlw,nlw,hwU,htot,hN,hwl,q⟩:=h
  have hun:=hr.un
  have hu:(A.deeper (PyProof.Rows.envOfC "lines_by_word" (defScope s_lines_by_word) s.heap.objs.size f cdv)).units+1<cLine:=by omega
  refine ⟨_,(pss_cons (ps_set (i:=2) sc_lines_by_word.nd rfl (Or.inl rfl) pe_dnewK)
      (pss_cons (ps_for PassesOwn.never rfl (pi_list (pv 1)) (pg_name (i:=3) sc_lines_by_word.nd rfl (Or.inl rfl)) (pss_cons (ps_set (i:=4) sc_lines_by_word.nd rfl (Or.inl rfl) (pe_mt m_line_to_end (hr.mono (by decide)) (pv 0) (pa_cons (pe_tup (pa_cons pe_str (pa_cons (pv 3) pa_nil))) pa_nil)))
        (pss_one (ps_if (pt_cmpR op_notN (pv 4) pe_non (nomark _)) (pss_one (ps_dput hu (pv 2) (pv 3) (pv 4) rfl)) pss_nil))))
      (pss_one (ps_ret (pv 2))))),?_⟩
  refine fun d fd0=>?_
  have s1:=same_new fd0 (HO.dK [])
  have x1:upd H d (HO.dK []) d=some _:=upd_same
  generalize upd H d (HO.dK [])=H1 at s1 x1 |-
  have ndO:d≠O:=fun z=>by
    obtain ⟨kv,e1,_⟩:=hk.dic
    rw [z,e1] at fd0
    cases fd0
  refine ⟨_,rfl,lw,rfl,⟨_,SqL.of (s1 _ _ hlw)⟩,for_list (K:=K) (a:=lw) (xs:=ws.map V.str) (fun i σ HX=>∃ (o3 o4:Option V) (kvs:List (Key×V)) (ks:List Str) (fs':List Lf) (on':On),σ=[some (.ref p),some (.ref lw),some (.ref d),o3,o4]/\Fr3 p L O H HX/\HX lw=some (.lst (ws.map V.str))/\RK C p dx L O g U HX fs' on' cl (N+i * (2 * U.length))/\Ext fs fs'/\Keep g (nxOf fs on) (nxOf fs' on')/\HX d=some (.dK kvs)/\DS kvs ks/\kvs.length<=i /\
      (∀ x,x∈ks↔x∈ws.take i/\nxOf fs on (.blank x)≠none)/\∀ x∈ks,∃ (n:Nat) (z:Lf) (e:Tm) (k:Nat),valV kvs (Sum.inr x)=some (.int (n:Nat))/\fs'[n]?=some z/\z.1=(.blank x,e)/\Rch (nxOf fs on) k (.blank x) e)
    ⟨none,none,[],[],fs,on,rfl,.of s1,s1 _ _ hlw,(hk.same s1).more (by omega),.refl,.refl,x1,⟨rfl,.nil⟩,Nat.le_refl _,fun x=>by simp,fun x hx=>(by cases hx)⟩ (fun i σ HX _ ⟨_,_,_,_,_,_,_,_,z,_⟩=>SqL.of z) ?_ ?_⟩
  · rintro i y σ HX hy ⟨o3,o4,kvs,ks,fs',on',rfl,fX,glw,kX,hext,hkeep,gd,hds,hkl,hdom,hval⟩
    have hi:i<ws.length:=by have:=(List.getElem?_eq_some_iff.mp hy).1;simpa using this
    have ey:y=.str ws[i]:=by
      rw [List.getElem?_map,List.getElem?_eq_getElem hi] at hy
      exact (Option.some.inj hy).symm
    subst ey
    have hmul:(i+1) * (2 * U.length)<=ws.length * (2 * U.length):=Nat.mul_le_mul_right _ (by omega)
    rw [Nat.add_mul,Nat.one_mul] at hmul
    obtain ⟨k,e,hrc⟩:=htot (.blank ws[i])
    obtain ⟨k',hrc'⟩:=hkeep.rch _ _ _ hrc
    refine ⟨_,rfl,p,dx,_,rfl,kX.self,lk_none (by decide +kernel) (by decide +kernel) (by decide +kernel),_,rfl,(by show 2<=sizeLine;decide),fun b fb=>?_⟩
    have t1:=same_new fb (HO.tup [.str "blank",.str ws[i]])
    have z1:upd HX b (HO.tup [.str "blank",.str ws[i]]) b=some _:=upd_same
    generalize upd HX b (HO.tup [.str "blank",.str ws[i]])=HY at t1 z1 |-
    have kY:=kX.same t1
    refine ⟨p,dx,L,O,g,U,fs',on',cl,_,.ref b,.blank ws[i],e,k',rfl,kY,termAt_blank.mpr ⟨b,rfl,z1⟩,hwU _ (List.getElem_mem hi),hrc',by omega,fun mo HZ fs2 on2 fZ kZ hext2 hkeep2 h0 h1 h2n=>?_⟩
    have fXZ:=fX.trans ((Fr3.of t1).trans fZ)
    have gdZ:=kY.dct fZ (t1 _ _ gd) ndO
    have glwZ:=kY.lst fZ (t1 _ _ glw) nlw
    have etk:ws.take (i+1)=ws.take i++[ws[i]]:=List.take_succ_eq_append_getElem hi
    have hNe:N+i * (2 * U.length)+2 * U.length=N+(i+1) * (2 * U.length):=by rw [Nat.add_mul];omega
    have hval2:∀ x∈ks,∃ (n:Nat) (z:Lf) (e:Tm) (k:Nat),valV kvs (Sum.inr x)=some (.int (n:Nat))/\fs2[n]?=some z/\z.1=(.blank x,e)/\Rch (nxOf fs on) k (.blank x) e:=fun x hx=>by
      obtain ⟨n,z,e,k,h1,h2,h3,h4⟩:=hval x hx
      exact ⟨n,z,e,k,h1,hext2.get h2,h3,h4⟩
    cases mo with
    | none =>
      have e0:=h0 rfl
      have hnn:nxOf fs on (.blank ws[i])=none:=by
        cases hrc with
        | root z=>exact z
        | step z r =>
          have:=r.end'
          rw [<- e0] at this
          exact this
      refine ⟨_,rfl,rfl,_,rfl,ite_f (by simp [onV]) ⟨_,_,kvs,ks,fs2,on2,rfl,fXZ,glwZ,hNe▸kZ,hext.trans hext2,hkeep.trans hkeep2,gdZ,hds,by omega,fun x=>?_,hval2⟩⟩
      rw [etk,hdom x]
      constructor
      · rintro ⟨h1,h2⟩
        exact ⟨List.mem_append_left _ h1,h2⟩
      · rintro ⟨h1,h2⟩
        rcases List.mem_append.mp h1 with z | z
        · exact ⟨z,h2⟩
        · rw [List.mem_singleton.mp z] at h2
          exact absurd hnn h2
    | some m =>
      obtain ⟨z,hz,ez⟩:=h1 m rfl
      refine ⟨_,rfl,rfl,_,rfl,ite_t (by simp [onV]) ⟨_,rfl,_,rfl,_,rfl,d,_,rfl,DPut.k (k:=Sum.inr ws[i]) gdZ (big (by omega)),?_⟩⟩
      have kT:∀ b' o',HZ b'=some o'->b'≠d->upd HZ d (HO.dK (putK kvs (Sum.inr ws[i]) (onV (some m)))) b'=some o':=fun b' o' z hb=>by rw [upd_ne hb];exact z
      have hlp:=length_putK kvs (Sum.inr ws[i]) (onV (some m))
      have hnn:nxOf fs on (.blank ws[i])≠none:=fun y=>by
        have:=h2n ((hkeep.non _).mpr y)
        cases this
      have kZ2:RK C p dx L O g U (upd HZ d (HO.dK (putK kvs (Sum.inr ws[i]) (onV (some m))))) fs2 on2 cl (N+(i+1) * (2 * U.length)):=by
        have kk:=hNe▸kZ
        obtain ⟨l6,g6,h6⟩:=kk.ls
        obtain ⟨kv,g7,h7⟩:=kk.dic
        have kt:TSame HZ (upd HZ d (HO.dK (putK kvs (Sum.inr ws[i]) (onV (some m))))):=fun bq ys y=>kT _ _ y (ne_of y gdZ (by intro z;cases z))
        exact ⟨kT _ _ kk.self (ne_of kk.self gdZ (by intro z;cases z)),⟨l6,kT _ _ g6 (ne_of g6 gdZ (by intro z;cases z)),LfAt.mono kt h6⟩,⟨kv,kT _ _ g7 ndO.symm,h7⟩,kk.len,kk.st,kk.ok⟩
      refine ⟨_,_,_,_,fs2,on2,rfl,fun b' o' y h1 h2 h3=>by rw [upd_ne (ne_of_none y fd0)];exact fXZ _ _ y h1 h2 h3,kT _ _ glwZ (ne_of glwZ gdZ (by intro z;cases z)),kZ2,hext.trans hext2,hkeep.trans hkeep2,upd_same,hds.put ws[i] (onV (some m)),by omega,fun x=>?_,fun x hx=>?_⟩
      · have hin:(x∈if ws[i]∈ks then ks else ks++[ws[i]])↔x∈ks\/x=ws[i]:=by
          by_cases c:ws[i]∈ks
          · rw [if_pos c]
            exact ⟨.inl,fun y=>y.elim id fun y=>y▸c⟩
          · rw [if_neg c,List.mem_append,List.mem_singleton]
        rw [hin,etk,hdom x]
        constructor
        · rintro (⟨h1,h2⟩ | rfl)
          · exact ⟨List.mem_append_left _ h1,h2⟩
          · exact ⟨List.mem_append_right _ (List.mem_singleton.mpr rfl),hnn⟩
        · rintro ⟨h1,h2⟩
          rcases List.mem_append.mp h1 with y | y
          · exact .inl ⟨y,h2⟩
          · exact .inr (List.mem_singleton.mp y)
      · by_cases c:x=ws[i]
        · subst c
          exact ⟨m,z,e,k,by rw [valV_put,if_pos rfl];rfl,hz,ez,hrc⟩
        · have hx':x∈ks:=by
            by_cases c2:ws[i]∈ks
            · rw [if_pos c2] at hx;exact hx
            · rw [if_neg c2] at hx
              rcases List.mem_append.mp hx with y | y
              · exact y
              · exact absurd (List.mem_singleton.mp y) c
          obtain ⟨n,z',e',k'',h1,h2,h3,h4⟩:=hval2 x hx'
          exact ⟨n,z',e',k'',by rw [valV_put,if_neg (fun y=>c (Sum.inr.inj y))];exact h1,h2,h3,h4⟩
  · rintro σ HX ⟨o3,o4,kvs,ks,fs',on',rfl,fX,glw,kX,hext,hkeep,gd,hds,hkl,hdom,hval⟩
    rw [zLM] at kX hdom
    rw [List.take_of_length_le (Nat.le_refl _)] at hdom
    exact ⟨_,rfl,q d kvs ks HX fs' on' fX kX hext hkeep fd0 gd hds hdom hval⟩
end
theorem firsts_nodup (t:Tm):t.firsts.Nodup:=by
  unfold Tm.firsts
  have:∀ (l acc:List Str),acc.Nodup->(addAll acc l).Nodup:=by
    intro l
    induction l with
    | nil=>intro acc h;exact h
    | cons x r ih =>
      intro acc h
      simp only [addAll]
      split
      · exact ih acc h
      · rename_i hx
        refine ih _ ?_
        rw [List.nodup_append]
        refine ⟨h,by simp,fun a ha b hb=>?_⟩
        rw [List.mem_singleton.mp hb]
        rintro rfl
        exact hx ha
  exact this _ _ List.nodup_nil
theorem firsts_len (t:Tm):t.firsts.length<=t.bl.length:=nodup_len (firsts_nodup t) fun x hx=>mem_firsts.mp hx
end K08
namespace BF
open PySem PySem.Spec PyProof.Rows L2
section
variable {X:Cx}{e e1 e2:Expr}{es:List Expr}{t:TA}{te te1 te2:TE}{pos:Pos}
end
end BF
namespace K08
open PySem L2 BF
section
variable {P:Program}{w:World}{K:PySem.W.Frag}{mg:Str->Option Value}{base:Heap}
theorem terms_rev {H:Hp}{vs:List V}{ts:List Tm}(h:TermsAt H vs ts):TermsAt H vs.reverse ts.reverse:=by
  induction ts generalizing vs with
  | nil=>have:=h.len;rw [List.length_eq_zero_iff.mp this];exact .nil
  | cons t r ih =>
    simp only [TermsAt,dtL,DatsAt] at h
    obtain ⟨v,us,rfl,h1,h2⟩:=h
    rw [List.reverse_cons,List.reverse_cons]
    exact (ih h2).app (.cons h1 .nil)
def spAll:Sp:=fun vs H Q _=>∃ (v:V) (t:Tm),vs=[v]/\TermAt H v t/\t.nodes<=5000000/\∀ l us H',Same H H'->H l=none->H' l=some (.lst us)->TermsAt H' us t.lp->Q (.ref l) H'
theorem ok_all_parts {f:Addr}{fd:FuncData}(F:Fun K "all_parts" "all_parts" s_all_parts f fd) (T:Bi mg):FnOk P w K mg base CX0 1 f fd ["term"] spAll:=by
  refine F.ok sc_all_parts (fun vs H Q E h=>?_) (fun cdv A outer s H vs Q E hr h=>?_)
  · obtain ⟨_,_,rfl,_⟩:=h
    rfl
  obtain ⟨v,t,rfl,ht,hn,q⟩:=h
  refine ⟨_,(pss_cons (ps_set (i:=1) sc_all_parts.nd rfl (Or.inl rfl) (pe_lst pa_nil))
      (pss_cons (ps_set (i:=2) sc_all_parts.nd rfl (Or.inl rfl) (pe_lst (pa_cons (pv 0) pa_nil)))
      (pss_cons (ps_while PassesOwn.never (pt_truth (pv 2) (fun _=>rfl)) (pss_cons (ps_set (i:=3) sc_all_parts.nd rfl (Or.inl rfl) (pe_bm0 PySem.F.plainAttrs_list PySem.F.slot_list_pop PySem.F.type_list_pop mt_pop (pv 2)))
        (pss_cons (ps_expr (pe_bm PySem.F.plainAttrs_list PySem.F.slot_list_append PySem.F.type_list_append mt_append (pv 1) (pa_cons (pv 3) pa_nil)))
        (pss_one (ps_if (pt_cmpR op_eq (pe_ix ix_tup (pv 3) pe_int (fun _ _=>rfl)) pe_str (nomark _)) (pss_one (ps_expr (pe_bm PySem.F.plainAttrs_list PySem.F.slot_list_extend PySem.F.type_list_extend mt_extend (pv 2) (pa_cons (pe_listrevT T.b_list T.b_reversed (pe_ix ix_tup (pv 3) pe_int (fun _ _=>rfl))) pa_nil)))) pss_nil)))))
      (pss_one (ps_ret (pv 1)))))),?_⟩
  refine ⟨(by show 0<=sizeLine;decide),fun p1 hp1=>?_⟩
  have s1:=same_new hp1 (HO.lst [])
  have x1:upd H p1 (HO.lst []) p1=some _:=upd_same
  generalize upd H p1 (HO.lst [])=H1 at s1 x1 |-
  refine ⟨_,rfl,(by show 1<=sizeLine;decide),fun p2 hp2=>?_⟩
  have s2:=same_new hp2 (HO.lst [v])
  have x2:upd H1 p2 (HO.lst [v]) p2=some _:=upd_same
  have n12:p1≠p2:=ne_of_none x1 hp2
  have f2:H p2=none:=s1.free hp2
  generalize upd H1 p2 (HO.lst [v])=H2 at s2 x2 |-
  refine ⟨fun m σ H3=>∃ (o:Option V) (rs us:List V) (done ts:List Tm),σ=[some v,some (.ref p1),some (.ref p2),o]/\Same H H3/\H3 p1=some (.lst rs)/\TermsAt H3 rs done/\H3 p2=some (.lst us)/\TermsAt H3 us ts /\
      nodesL ts=m/\done++lpL ts.reverse=t.lp/\done.length+m<=t.nodes,
    ⟨_,none,[],[v],[],[t],rfl,s1.trans s2,s2 _ _ x1,.nil,x2,.cons (ht.mono (.of (s1.trans s2))) .nil,rfl,by simp [lpL],by simp [nodesL]⟩,?_⟩
  rintro m σ H3 ⟨o,rs,us,done,ts,rfl,s3,g1,hrs,g2,hus,hm,hout,hsz⟩
  refine ⟨_,rfl,_,.inl ⟨us,SqL.of g2,rfl⟩,ite2 (fun c=>⟨_,fun _ _ h=>h,?_⟩) (fun c=>?_)⟩
  ·
    have hne:us≠[]:=by intro z;rw [z] at c;exact absurd c (by decide)
    have hlen:=hus.len
    obtain ⟨us0,u,rfl⟩:=snoc_of hne
    obtain ⟨ts0,t1,rfl⟩:=snoc_of (l:=ts) (by intro z;rw [z] at hlen;simp at hlen)
    obtain ⟨h0,hu1⟩:=hus.snoc
    rw [nodesL_append] at hm
    simp only [nodesL] at hm
    rw [List.reverse_append] at hout
    simp only [List.reverse_cons,List.reverse_nil,List.nil_append,List.singleton_append,lpL] at hout
    have hl0:=len_le_nodes ts0
    have hu0:=h0.len
    have hr0:=hrs.len
    have hn1:=t1.nodes_pos
    refine ⟨_,rfl,.inl ⟨rfl,_,SqL.of g2⟩,p2,_,u,rfl,rfl,g2,by simp,?_⟩
    rw [List.dropLast_concat]
    have k4:TSame H3 (upd H3 p2 (HO.lst us0)):=.lst g2
    have x4:upd H3 p2 (HO.lst us0) p2=some _:=upd_same
    have y4:upd H3 p2 (HO.lst us0) p1=some (.lst rs):=by rw [upd_ne n12];exact g1
    have s4:Same H (upd H3 p2 (HO.lst us0)):=fun b ob z=>by rw [upd_ne (ne_of_none z f2)];exact s3 _ _ z
    generalize upd H3 p2 (HO.lst us0)=H4 at k4 x4 y4 s4 |-
    refine ⟨_,rfl,.inl ⟨rfl,_,SqL.of y4⟩,_,rfl,p1,_,_,rfl,rfl,y4,big (by omega),?_⟩
    have k5:TSame H4 (upd H4 p1 (HO.lst (rs++[u]))):=.lst y4
    have x5:upd H4 p1 (HO.lst (rs++[u])) p1=some _:=upd_same
    have y5:upd H4 p1 (HO.lst (rs++[u])) p2=some (.lst us0):=by rw [upd_ne n12.symm];exact x4
    have s5:Same H (upd H4 p1 (HO.lst (rs++[u]))):=fun b ob z=>by rw [upd_ne (ne_of_none z hp1)];exact s4 _ _ z
    generalize upd H4 p1 (HO.lst (rs++[u]))=H5 at k5 x5 y5 s5 |-
    have h5:=(h0.mono k4).mono k5
    have ht1:=(hu1.mono k4).mono k5
    have hd5:TermsAt H5 (rs++[u]) (done++[t1]):=((hrs.mono k4).mono k5).app (.cons ht1 .nil)
    cases t1 with
    | num n =>
      obtain ⟨a,rfl,e1⟩:=termAt_num.mp ht1
      refine ⟨_,rfl,_,_,_,_,rfl,rfl,SqT.of e1,rfl,rfl,_,rfl,ite_f (by decide +kernel) ?_⟩
      exact ⟨nodesL ts0,by omega,_,_,us0,_,ts0,rfl,s5,x5,hd5,y5,h5,rfl,by simpa [Tm.lp] using hout,by rw [zLA];simp only [zLC,zLN];omega⟩
    | name n =>
      obtain ⟨a,rfl,e1⟩:=termAt_name.mp ht1
      refine ⟨_,rfl,_,_,_,_,rfl,rfl,SqT.of e1,rfl,rfl,_,rfl,ite_f (by decide +kernel) ?_⟩
      exact ⟨nodesL ts0,by omega,_,_,us0,_,ts0,rfl,s5,x5,hd5,y5,h5,rfl,by simpa [Tm.lp] using hout,by rw [zLA];simp only [zLC,zLN];omega⟩
    | blank n =>
      obtain ⟨a,rfl,e1⟩:=termAt_blank.mp ht1
      refine ⟨_,rfl,_,_,_,_,rfl,rfl,SqT.of e1,rfl,rfl,_,rfl,ite_f (by decide +kernel) ?_⟩
      exact ⟨nodesL ts0,by omega,_,_,us0,_,ts0,rfl,s5,x5,hd5,y5,h5,rfl,by simpa [Tm.lp] using hout,by rw [zLA];simp only [zLC,zLN];omega⟩
    | thing n qs =>
      obtain ⟨a,b,pv,rfl,e1,e2,e3⟩:=termAt_thing.mp ht1
      have hpl:=e3.len
      have hpn:=len_le_nodes qs
      simp only [Tm.nodes] at hm
      refine ⟨_,rfl,_,_,_,_,rfl,rfl,SqT.of e1,rfl,rfl,_,rfl,ite_t (by decide +kernel) ?_⟩
      refine ⟨_,rfl,.inl ⟨rfl,_,SqL.of y5⟩,_,rfl,_,_,_,_,rfl,rfl,SqT.of e1,rfl,b,pv,rfl,SqT.of e2,fun l hl=>?_⟩
      have s6:=same_new hl (HO.lst pv.reverse)
      have x6:upd H5 l (HO.lst pv.reverse) l=some _:=upd_same
      generalize upd H5 l (HO.lst pv.reverse)=H6 at s6 x6 |-
      refine ⟨p2,l,us0,pv.reverse,rfl,rfl,s6 _ _ y5,x6,small (by rw [List.length_reverse];omega),?_⟩
      have k7:TSame H6 (upd H6 p2 (HO.lst (us0++pv.reverse))):=.lst (s6 _ _ y5)
      refine ⟨nodesL ts0+nodesL qs,by omega,_,_,us0++pv.reverse,_,ts0++qs.reverse,rfl,fun b' ob z=>by rw [upd_ne (ne_of_none z f2)];exact s6 _ _ (s5 _ _ z),by rw [upd_ne n12];exact s6 _ _ x5,TermsAt.mono k7 (hd5.mono (.of s6)),upd_same,
        TermsAt.mono k7 ((h5.mono (.of s6)).app (terms_rev (e3.mono (.of s6)))),by rw [nodesL_append,nodesL_reverse],?_,by rw [zLA];simp only [zLC,zLN];omega⟩
      rw [List.reverse_append,List.reverse_reverse,lpL_append,<- hout]
      simp [Tm.lp]
  · have e:us=[]:=by
      cases us with
      | nil=>rfl
      | cons a b=>exact absurd rfl c
    subst e
    have hlen:=hus.len
    have e:ts=[]:=List.length_eq_zero_iff.mp hlen.symm
    subst e
    have e2:done=t.lp:=by simpa [lpL] using hout
    refine ⟨_,rfl,?_⟩
    exact q p1 rs H3 s3 hp1 g1 (by rw [<- e2];exact hrs)
def spTaken:Sp:=fun vs H Q _=>∃ (p:Addr) (us:List V) (n:Nat),vs=[.ref p,.int n]/\H p=some (.lst us)/\n<=us.length/\us.length<=1000 /\
  ∀ l H',SameX p H H'->H l=none->H' p=some (.lst (us.take (us.length - n)))->H' l=some (.lst (us.drop (us.length - n)).reverse)->Q (.ref l) H'
theorem ok_taken {f:Addr}{fd:FuncData}(F:Fun K "taken" "taken" s_taken f fd) (T:Bi mg):FnOk P w K mg base CX0 1 f fd ["made","count"] spTaken:=by
  refine F.ok sc_taken (fun vs H Q E h=>?_) (fun cdv A outer s H vs Q E hr h=>?_)
  · obtain ⟨_,_,_,rfl,_⟩:=h
    rfl
  obtain ⟨p,us,n,rfl,hp,hn,hsz,q⟩:=h
  refine ⟨_,(pss_cons (ps_set (i:=2) sc_taken.nd rfl (Or.inl rfl) (pe_lst pa_nil))
      (pss_cons (ps_while PassesOwn.never (pt_cmpR op_lt (pe_blt call_len_seq T.b_len bt_len (pa_cons (pv 2) pa_nil)) (pv 1) (nomark _)) (pss_one (ps_expr (pe_bm PySem.F.plainAttrs_list PySem.F.slot_list_append PySem.F.type_list_append mt_append (pv 2) (pa_cons (pe_bm0 PySem.F.plainAttrs_list PySem.F.slot_list_pop PySem.F.type_list_pop mt_pop (pv 0)) pa_nil)))))
      (pss_one (ps_ret (pv 2))))),?_⟩
  refine ⟨(by show 0<=sizeLine;decide),fun l hl=>?_⟩
  have npl:p≠l:=ne_of_none hp hl
  refine ⟨fun m σ H3=>∃ j:Nat,j<=n/\m=n - j/\σ=[some (.ref p),some (.int n),some (.ref l)]/\SameX p H H3/\H3 p=some (.lst (us.take (us.length - j)))/\H3 l=some (.lst (us.drop (us.length - j)).reverse),
    ⟨_,0,Nat.zero_le _,rfl,rfl,fun b o _ z=>same_new hl _ _ _ z,by rw [upd_ne npl];simpa using hp,by rw [upd_same];simp⟩,?_⟩
  rintro m σ H3 ⟨j,hj,rfl,rfl,sx,g1,g2⟩
  have hjl:((us.drop (us.length - j)).reverse).length=j:=by rw [List.length_reverse,List.length_drop];omega
  refine ⟨_,rfl,l,_,rfl,.inl (SqL.of g2),_,rfl,_,_,rfl,rfl,_,rfl,ite2 (fun c=>⟨_,fun _ _ h=>h,?_⟩) (fun c=>?_)⟩
  · have c':j<n:=by
      have:=of_decide_eq_true c
      rw [hjl] at this
      omega
    obtain ⟨y,hy⟩:∃ y,us[us.length - j - 1]?=some y:=⟨_,List.getElem?_eq_getElem (by omega)⟩
    have hlast:(us.take (us.length - j))[(us.take (us.length - j)).length - 1]?=some y:=by
      have e:(us.take (us.length - j)).length - 1=us.length - j - 1:=by rw [List.length_take];omega
      rw [e,List.getElem?_take_of_lt (by omega)]
      exact hy
    have hdl:(us.take (us.length - j)).dropLast=us.take (us.length - (j+1)):=by
      rw [List.dropLast_eq_take,List.take_take,List.length_take]
      congr 1
      omega
    refine ⟨_,rfl,.inl ⟨rfl,_,SqL.of g2⟩,_,rfl,.inl ⟨rfl,_,SqL.of g1⟩,p,_,y,rfl,rfl,g1,hlast,?_⟩
    rw [hdl]
    have x4:upd H3 p (HO.lst (us.take (us.length - (j+1)))) p=some _:=upd_same
    have y4:upd H3 p (HO.lst (us.take (us.length - (j+1)))) l=some (.lst (us.drop (us.length - j)).reverse):=by rw [upd_ne npl.symm];exact g2
    have s4:SameX p H (upd H3 p (HO.lst (us.take (us.length - (j+1))))):=fun b o hb z=>by rw [upd_ne hb];exact sx b o hb z
    generalize upd H3 p (HO.lst (us.take (us.length - (j+1))))=H4 at x4 y4 s4 |-
    refine ⟨l,_,y,rfl,rfl,y4,big (by rw [hjl];omega),n - (j+1),by omega,j+1,by omega,rfl,rfl,fun b o hb z=>?_,by rw [upd_ne npl];exact x4,?_⟩
    · rw [upd_ne (ne_of_none z hl)]
      exact s4 b o hb z
    · rw [upd_same]
      have e:us.drop (us.length - (j+1))=y::us.drop (us.length - j):=by
        have h1:us.length - (j+1)<us.length:=by omega
        rw [List.drop_eq_getElem_cons h1]
        have h2:us.length - (j+1)+1=us.length - j:=by omega
        rw [h2]
        congr 1
        have h3:us.length - j - 1=us.length - (j+1):=by omega
        rw [h3,List.getElem?_eq_getElem h1] at hy
        exact Option.some.inj hy
      rw [e,List.reverse_cons]
  · have c':¬ j<n:=by
      intro z
      refine c (decide_eq_true ?_)
      rw [hjl]
      omega
    have e:j=n:=by omega
    subst e
    exact ⟨_,rfl,q l H3 sx hl g1 g2⟩
def spRep:Sp:=fun vs H Q _=>∃ (v:V) (t:Tm) (d:Addr) (kvs:List (Key×V)) (f:Fl),vs=[v,.ref d]/\TermAt H v t/\t.nodes<=200/\H d=some (.dK kvs)/\DOf H kvs f/\∀ v' H',Same H H'->TermAt H' v' (t.fill f)->Q v' H'
theorem ok_replaced {f0:Addr}{fd:FuncData}(F:Fun K "replaced" "replaced" s_replaced f0 fd) (T:Bi mg) (c_all_parts:Cal P w K mg base 1 "all_parts" ["term"] spAll) (c_taken:Cal P w K mg base 1 "taken" ["made","count"] spTaken) :
    FnOk P w K mg base CX0 2 f0 fd ["term","terms"] spRep:=by
  refine F.ok sc_replaced (fun vs H Q E h=>?_) (fun cdv A outer s H vs Q E hr h=>?_)
  · obtain ⟨_,_,_,_,_,rfl,_⟩:=h
    rfl
  obtain ⟨v,t,d,kvs,f,rfl,ht,hn,hd,hD,q⟩:=h
  have hu:(A.deeper (PyProof.Rows.envOfC "replaced" (defScope s_replaced) s.heap.objs.size f0 cdv)).units+1<cLine:=by have:=hr.un;omega
  refine ⟨_,(pss_cons (ps_set (i:=2) sc_replaced.nd rfl (Or.inl rfl) (pe_lst pa_nil))
      (pss_cons (ps_for PassesOwn.never rfl (pi_revL rfl T.b_reversed (pa_cons (pe_cal c_all_parts (hr.mono (by decide)) (pa_cons (pv 0) pa_nil)) pa_nil)) (pg_name (i:=3) sc_replaced.nd rfl (Or.inl rfl)) (pss_one (ps_if (pt_cmpR op_eq (pe_ix ix_tup (pv 3) pe_int (fun _ _=>rfl)) pe_str (nomark _)) (pss_cons (ps_set (i:=4) sc_replaced.nd rfl (Or.inl rfl) (pe_cal c_taken (hr.mono (by decide)) (pa_cons (pv 2) (pa_cons (pe_blt call_len_seq T.b_len bt_len (pa_cons (pe_ix ix_tup (pv 3) pe_int (fun _ _=>rfl)) pa_nil)) pa_nil))))
          (pss_one (ps_expr (pe_bm PySem.F.plainAttrs_list PySem.F.slot_list_append PySem.F.type_list_append mt_append (pv 2) (pa_cons (pe_tup (pa_cons pe_str (pa_cons (pe_ix ix_tup (pv 3) pe_int (fun _ _=>rfl)) (pa_cons (pe_bty call_tuple_of T.b_tuple bt_tuple (pa_cons (pv 4) pa_nil)) pa_nil)))) pa_nil))))) (pss_one (ps_if (pt_cmpR op_eq (pe_ix ix_tup (pv 3) pe_int (fun _ _=>rfl)) pe_str (nomark _)) (pss_one (ps_expr (pe_bm PySem.F.plainAttrs_list PySem.F.slot_list_append PySem.F.type_list_append mt_append (pv 2) (pa_cons (pe_dget2 hu (pv 1) (pe_ix ix_tup (pv 3) pe_int (fun _ _=>rfl)) (pv 3) ⟨rfl,rfl,rfl,rfl⟩) pa_nil)))) (pss_one (ps_expr (pe_bm PySem.F.plainAttrs_list PySem.F.slot_list_append PySem.F.type_list_append mt_append (pv 2) (pa_cons (pv 3) pa_nil)))))))))
      (pss_one (ps_ret (pe_ix ix_list (pv 2) pe_int (fun _ _=>rfl)))))),?_⟩
  refine ⟨(by show 0<=sizeLine;decide),fun p hp=>?_⟩
  have s1:=same_new hp (HO.lst [])
  have x1:upd H p (HO.lst []) p=some _:=upd_same
  generalize upd H p (HO.lst [])=H1 at s1 x1 |-
  refine ⟨_,rfl,v,t,rfl,ht.mono (.of s1),by omega,fun l us H2 s2 fl hl hus=>?_⟩
  have npl:p≠l:=ne_of_none x1 fl
  have hfl:H l=none:=s1.free fl
  have hul:=hus.len
  have hll:=lp_len t
  have hlen:us.length=t.nodes:=by omega
  refine ⟨l,us,rfl,SqL.of hl,for_revL (K:=K) (a:=l) (xs:=us) (fun i σ H3=>∃ (o3 o4:Option V) (ms:List V) (made:List Tm),σ=[some v,some (.ref d),some (.ref p),o3,o4]/\Same H H3/\H3 l=some (.lst us)/\TermsAt H3 us t.lp/\H3 p=some (.lst ms)/\TermsAt H3 ms made /\
      made=frun f [] (t.lp.reverse.take i)/\Fit made.length (t.lp.reverse.drop i)/\made.length<=i)
    ⟨none,none,[],[],rfl,s1.trans s2,hl,hus,s2 _ _ x1,.nil,by simp [frun],by simpa using fit_all t,Nat.le_refl _⟩ (fun i σ H3 _ ⟨_,_,_,_,_,_,g,_⟩=>SqL.of g) ?_ ?_⟩
  · rintro i x σ H3 hx ⟨o3,o4,ms,made,rfl,s3,gl,gus,gp,gms,hmade,hfit,hml⟩
    have hi:i<us.length:=by have:=(List.getElem?_eq_some_iff.mp hx).1;simpa using this
    have hir:i<t.lp.reverse.length:=by rw [List.length_reverse];omega
    have hxt:TermAt H3 x (t.lp.reverse[i]):=by
      have h1:=(terms_rev gus).at i (by rw [List.length_reverse];exact hi) hir
      have h2:us.reverse[i]'(by rw [List.length_reverse];exact hi)=x:=(List.getElem?_eq_some_iff.mp hx).2
      rw [h2] at h1
      exact h1
    have hrun:frun f [] (t.lp.reverse.take (i+1))=fturn f made (t.lp.reverse[i]):=by
      rw [List.take_succ_eq_append_getElem hir,frun_append,<- hmade]
      rfl
    rw [List.drop_eq_getElem_cons hir] at hfit
    have gd:H3 d=some (.dK kvs):=s3 _ _ hd
    have gD:DOf H3 kvs f:=hD.mono (.of s3)
    have gml:=gms.len
    generalize hpt:t.lp.reverse[i]=pt at hxt hrun hfit
    cases pt with
    | num n =>
      obtain ⟨a,rfl,e1⟩:=termAt_num.mp hxt
      refine ⟨_,rfl,_,_,_,_,rfl,rfl,SqT.of e1,rfl,rfl,_,rfl,ite_f (by decide +kernel) ?_⟩
      refine ⟨_,rfl,_,_,_,_,rfl,rfl,SqT.of e1,rfl,rfl,_,rfl,ite_f (by decide +kernel) ?_⟩
      refine ⟨_,rfl,.inl ⟨rfl,_,SqL.of gp⟩,_,rfl,p,_,_,rfl,rfl,gp,big (by omega),?_⟩
      have k4:TSame H3 (upd H3 p (HO.lst (ms++[.ref a]))):=.lst gp
      refine ⟨_,_,_,made++[.num n],rfl,fun b ob z=>by rw [upd_ne (ne_of_none z hp)];exact s3 _ _ z,by rw [upd_ne npl.symm];exact gl,gus.mono k4,upd_same,TermsAt.mono k4 (gms.app (.cons hxt .nil)),by rw [hrun];rfl,by simpa [Fit] using hfit,by simp;omega⟩
    | name n =>
      obtain ⟨a,rfl,e1⟩:=termAt_name.mp hxt
      refine ⟨_,rfl,_,_,_,_,rfl,rfl,SqT.of e1,rfl,rfl,_,rfl,ite_f (by decide +kernel) ?_⟩
      refine ⟨_,rfl,_,_,_,_,rfl,rfl,SqT.of e1,rfl,rfl,_,rfl,ite_f (by decide +kernel) ?_⟩
      refine ⟨_,rfl,.inl ⟨rfl,_,SqL.of gp⟩,_,rfl,p,_,_,rfl,rfl,gp,big (by omega),?_⟩
      have k4:TSame H3 (upd H3 p (HO.lst (ms++[.ref a]))):=.lst gp
      refine ⟨_,_,_,made++[.name n],rfl,fun b ob z=>by rw [upd_ne (ne_of_none z hp)];exact s3 _ _ z,by rw [upd_ne npl.symm];exact gl,gus.mono k4,upd_same,TermsAt.mono k4 (gms.app (.cons hxt .nil)),by rw [hrun];rfl,by simpa [Fit] using hfit,by simp;omega⟩
    | blank n =>
      obtain ⟨a,rfl,e1⟩:=termAt_blank.mp hxt
      refine ⟨_,rfl,_,_,_,_,rfl,rfl,SqT.of e1,rfl,rfl,_,rfl,ite_f (by decide +kernel) ?_⟩
      refine ⟨_,rfl,_,_,_,_,rfl,rfl,SqT.of e1,rfl,rfl,_,rfl,ite_t (by decide +kernel) ?_⟩
      obtain ⟨u,hu',htu⟩:∃ u,(valV kvs (Sum.inr n)).getD (.ref a)=u/\TermAt H3 u ((look f n).getD (.blank n)):=by
        refine ⟨_,rfl,?_⟩
        cases e:look f n with
        | none=>rw [(gD n).1 e];exact hxt
        | some t' =>
          obtain ⟨v',h1,h2⟩:=(gD n).2 t' e
          rw [h1]
          exact h2
      refine ⟨_,rfl,.inl ⟨rfl,_,SqL.of gp⟩,_,rfl,d,rfl,.inl ⟨kvs,.inl gd⟩,_,rfl,_,_,_,_,rfl,rfl,SqT.of e1,rfl,_,rfl,_,DGet.k (k:=Sum.inr n) gd,?_⟩
      rw [hu']
      refine ⟨p,_,_,rfl,rfl,gp,big (by omega),?_⟩
      have k4:TSame H3 (upd H3 p (HO.lst (ms++[u]))):=.lst gp
      refine ⟨_,_,_,made++[(look f n).getD (.blank n)],rfl,fun b ob z=>by rw [upd_ne (ne_of_none z hp)];exact s3 _ _ z,by rw [upd_ne npl.symm];exact gl,gus.mono k4,upd_same,TermsAt.mono k4 (gms.app (.cons htu .nil)),by rw [hrun];rfl,by simpa [Fit] using hfit,by simp;omega⟩
    | thing n qs =>
      obtain ⟨a,b,pv,rfl,e1,e2,e3⟩:=termAt_thing.mp hxt
      have hpl:=e3.len
      simp only [Fit] at hfit
      obtain ⟨hf1,hf2⟩:=hfit
      refine ⟨_,rfl,_,_,_,_,rfl,rfl,SqT.of e1,rfl,rfl,_,rfl,ite_t (by decide +kernel) ?_⟩
      refine ⟨_,rfl,_,rfl,_,_,_,_,rfl,rfl,SqT.of e1,rfl,b,pv,rfl,.inr (SqT.of e2),p,ms,pv.length,rfl,gp,by omega,by omega,fun l2 H4 sx fl2 h4p h4l=>?_⟩
      have e4:ms.length - pv.length=made.length - qs.length:=by omega
      rw [e4] at h4p h4l
      have k4:TSame H3 H4:=fun b' ys z=>sx b' _ (ne_of z gp (by intro z;cases z)) z
      have s4:Same H H4:=fun b' ob z=>sx b' ob (ne_of_none z hp) (s3 _ _ z)
      have g4l:H4 l=some (.lst us):=sx _ _ npl.symm gl
      have t4:TermsAt H4 ms made:=gms.mono k4
      have tk4:=t4.takeN (made.length - qs.length)
      have dr4:=terms_rev (t4.dropN (made.length - qs.length))
      refine ⟨_,rfl,.inl ⟨rfl,_,SqL.of h4p⟩,_,rfl,_,_,_,_,rfl,rfl,SqT.of (k4 _ _ e1),rfl,_,rfl,l2,_,rfl,.inl ⟨SqL.of h4l,fun b2 hb2=>?_⟩⟩
      have s5:=same_new hb2 (HO.tup (ms.drop (made.length - qs.length)).reverse)
      have x5:upd H4 b2 (HO.tup (ms.drop (made.length - qs.length)).reverse) b2=some _:=upd_same
      generalize upd H4 b2 (HO.tup (ms.drop (made.length - qs.length)).reverse)=H5 at s5 x5 |-
      refine ⟨(by show 3<=sizeLine;decide),fun g hg=>?_⟩
      have s6:=same_new hg (HO.tup [.str "thing",.str n,.ref b2])
      have x6:upd H5 g (HO.tup [.str "thing",.str n,.ref b2]) g=some _:=upd_same
      generalize upd H5 g (HO.tup [.str "thing",.str n,.ref b2])=H6 at s6 x6 |-
      have up:=s5.trans s6
      have g6p:=up _ _ h4p
      refine ⟨p,_,_,rfl,rfl,g6p,big (by rw [List.length_take];omega),?_⟩
      have k7:TSame H6 (upd H6 p (HO.lst (ms.take (made.length - qs.length)++[.ref g]))):=.lst g6p
      refine ⟨_,_,_,made.take (made.length - qs.length)++[.thing n (made.drop (made.length - qs.length)).reverse],rfl,fun b' ob z=>by rw [upd_ne (ne_of_none z hp)];exact up _ _ (s4 _ _ z),by rw [upd_ne npl.symm];exact up _ _ g4l,((gus.mono k4).mono (.of up)).mono k7,upd_same,
        TermsAt.mono k7 ((tk4.mono (.of up)).app (.cons (termAt_thing.mpr ⟨g,b2,_,rfl,x6,s6 _ _ x5,dr4.mono (.of up)⟩) .nil)),by rw [hrun];rfl,?_,by simp only [zLA,List.length_take,zLC,zLN];omega⟩
      have e5:(made.take (made.length - qs.length)++[Tm.thing n (made.drop (made.length - qs.length)).reverse]).length=made.length - qs.length+1:=by
        simp only [zLA,List.length_take,zLC,zLN];omega
      rw [e5]
      exact hf2
  · rintro σ H3 ⟨o3,o4,ms,made,rfl,s3,gl,gus,gp,gms,hmade,hfit,hml⟩
    have e:made=[t.fill f]:=by
      rw [hmade,List.take_of_length_le (by rw [List.length_reverse];omega),frun_lp]
      rfl
    subst e
    have gml:=gms.len
    match ms,gml,gms,gp with
    | [u],_,gms,gp =>
      refine ⟨_,rfl,p,_,_,u,rfl,rfl,SqL.of gp,rfl,?_⟩
      exact q u H3 s3 (gms.at 0 (by simp) (by simp))
end
section
variable {P:Program}{w:World}{K:PySem.W.Frag}{mg:Str->Option Value}{base:Heap}
def spBlanks:Sp:=fun vs H Q _=>∃ (v:V) (t:Tm),vs=[v]/\TermAt H v t/\t.nodes<=5000000/\∀ l H',Same H H'->H' l=some (.lst (t.firsts.map V.str))->Q (.ref l) H'
def wd (acc:List Str):List (Key×V):=acc.map fun x=>(Sum.inr x,V.bl true)
theorem wd_any (acc:List Str) (x:Str):((wd acc).any fun kv=>decide (kv.1=Sum.inr x))=true↔x∈acc:=by
  simp only [wd,List.any_map,List.any_eq_true,Function.comp,decide_eq_true_eq,Sum.inr.injEq]
  constructor
  · rintro ⟨y,h1,rfl⟩;exact h1
  · intro h;exact ⟨x,h,rfl⟩
theorem wd_put (acc:List Str) (x:Str):putK (wd acc) (Sum.inr x) (V.bl true)=wd (if x∈acc then acc else acc++[x]):=by
  unfold putK
  by_cases h:x∈acc
  · rw [if_pos ((wd_any acc x).mpr h),if_pos h]
    unfold wd
    rw [List.map_map]
    refine List.map_congr_left fun y _=>?_
    simp only [Function.comp]
    split <;> rfl
  · rw [if_neg (fun z=>h ((wd_any acc x).mp z)),if_neg h]
    simp [wd]
theorem ok_blanks_of {f:Addr}{fd:FuncData}(F:Fun K "blanks_of" "blanks_of" s_blanks_of f fd) (T:Bi mg) (c_all_parts:Cal P w K mg base 1 "all_parts" ["term"] spAll):FnOk P w K mg base CX0 2 f fd ["term"] spBlanks:=by
  refine F.ok sc_blanks_of (fun vs H Q E h=>?_) (fun cdv A outer s H vs Q E hr h=>?_)
  · obtain ⟨_,_,rfl,_⟩:=h
    rfl
  obtain ⟨v,t,rfl,ht,hn,q⟩:=h
  have hu:(A.deeper (PyProof.Rows.envOfC "blanks_of" (defScope s_blanks_of) s.heap.objs.size f cdv)).units+1<cLine:=by have:=hr.un;omega
  refine ⟨_,(pss_cons (ps_set (i:=1) sc_blanks_of.nd rfl (Or.inl rfl) pe_dnewK)
      (pss_cons (ps_for PassesOwn.never rfl (pi_list (pe_cal c_all_parts (hr.mono (by decide)) (pa_cons (pv 0) pa_nil))) (pg_name (i:=2) sc_blanks_of.nd rfl (Or.inl rfl)) (pss_one (ps_if (pt_cmpR op_eq (pe_ix ix_tup (pv 2) pe_int (fun _ _=>rfl)) pe_str (nomark _)) (pss_one (ps_dput hu (pv 1) (pe_ix ix_tup (pv 2) pe_int (fun _ _=>rfl)) pe_bl rfl)) pss_nil)))
      (pss_one (ps_ret (pe_lsd T.b_list (pa_cons (pv 1) pa_nil)))))),?_⟩
  refine fun p1 hp1=>?_
  have s1:=same_new hp1 (HO.dK [])
  have x1:upd H p1 (HO.dK []) p1=some _:=upd_same
  generalize upd H p1 (HO.dK [])=H1 at s1 x1 |-
  refine ⟨_,rfl,v,t,rfl,ht.mono (.of s1),hn,fun l us H2 s2 fl hl hus=>?_⟩
  have n1l:p1≠l:=ne_of_none x1 fl
  have hul:=hus.len
  have hll:=lp_len t
  refine ⟨l,rfl,⟨_,SqL.of hl⟩,for_list (K:=K) (a:=l) (xs:=us) (fun i σ H3=>∃ (o:Option V) (acc:List Str),σ=[some v,some (.ref p1),o]/\Same H H3/\TSame H2 H3/\H3 l=some (.lst us)/\H3 p1=some (.dK (wd acc))/\acc=addAll [] ((t.lp.take i).flatMap Tm.b1)/\acc.length<=i)
    ⟨none,[],rfl,s1.trans s2,.refl _,hl,s2 _ _ x1,rfl,Nat.le_refl _⟩ (fun i σ H3 _ ⟨_,_,_,_,_,g,_⟩=>SqL.of g) ?_ ?_⟩
  · rintro i x σ H3 hx ⟨o,acc,rfl,s3,k3,gl,g1,hacc,hal⟩
    have hi:i<us.length:=(List.getElem?_eq_some_iff.mp hx).1
    have hi':i<t.lp.length:=by omega
    have hxt:TermAt H3 x (t.lp[i]):=by
      have h1:=(hus.mono k3).at i hi hi'
      rw [(List.getElem?_eq_some_iff.mp hx).2] at h1
      exact h1
    have hstep:addAll [] ((t.lp.take (i+1)).flatMap Tm.b1)=addAll acc (t.lp[i]).b1:=by
      rw [List.take_succ_eq_append_getElem hi',List.flatMap_append,addAll_append,<- hacc]
      simp
    generalize t.lp[i]=pt at hxt hstep
    cases pt with
    | num n =>
      obtain ⟨a,rfl,e1⟩:=termAt_num.mp hxt
      refine ⟨_,rfl,_,_,_,_,rfl,rfl,SqT.of e1,rfl,rfl,_,rfl,ite_f (by decide +kernel) ?_⟩
      exact ⟨_,acc,rfl,s3,k3,gl,g1,by rw [hstep];rfl,by omega⟩
    | name n =>
      obtain ⟨a,rfl,e1⟩:=termAt_name.mp hxt
      refine ⟨_,rfl,_,_,_,_,rfl,rfl,SqT.of e1,rfl,rfl,_,rfl,ite_f (by decide +kernel) ?_⟩
      exact ⟨_,acc,rfl,s3,k3,gl,g1,by rw [hstep];rfl,by omega⟩
    | thing n qs =>
      obtain ⟨a,b,pv,rfl,e1,e2,e3⟩:=termAt_thing.mp hxt
      refine ⟨_,rfl,_,_,_,_,rfl,rfl,SqT.of e1,rfl,rfl,_,rfl,ite_f (by decide +kernel) ?_⟩
      exact ⟨_,acc,rfl,s3,k3,gl,g1,by rw [hstep];rfl,by omega⟩
    | blank n =>
      obtain ⟨a,rfl,e1⟩:=termAt_blank.mp hxt
      refine ⟨_,rfl,_,_,_,_,rfl,rfl,SqT.of e1,rfl,rfl,_,rfl,ite_t (by decide +kernel) ?_⟩
      refine ⟨_,rfl,_,rfl,_,_,_,_,rfl,rfl,SqT.of e1,rfl,p1,_,rfl,DPut.k (k:=Sum.inr n) g1 ?_,?_⟩
      · simp only [wd,zLM];exact Nat.lt_of_lt_of_le (show acc.length<6000000 by omega) (by decide)
      rw [wd_put]
      have k5:TSame H3 (upd H3 p1 (HO.dK (wd (if n∈acc then acc else acc++[n])))):=fun b ys z=>by rw [upd_ne (ne_of z g1 (by intro z;cases z))];exact z
      refine ⟨_,if n∈acc then acc else acc++[n],rfl,fun b ob z=>by rw [upd_ne (ne_of_none z hp1)];exact s3 _ _ z,k3.trans k5,by rw [upd_ne n1l.symm];exact gl,upd_same,?_,?_⟩
      · rw [hstep]
        simp only [Tm.b1,addAll]
      · split
        · omega
        · rw [zLA];simp only [zLC,zLN];omega
  · rintro σ H3 ⟨o,acc,rfl,s3,k3,gl,g1,hacc,hal⟩
    have e2:acc=t.firsts:=by
      rw [hacc,List.take_of_length_le (by omega),lp_bl]
      rfl
    refine ⟨_,rfl,p1,_,rfl,g1,fun l hl=>?_⟩
    refine q l _ (s3.trans (same_new hl _)) ?_
    rw [upd_same,<- e2]
    simp only [wd,List.map_map]
    rfl
end
section
variable {P:Program}{w:World}{K:PySem.W.Frag}{mg:Str->Option Value}{base:Heap}
def spSteps:Sp:=fun vs H Q _=>∃ (v:V) (t:Tm),vs=[v]/\TermAt H v t/\t.nodes<=5000000/\∀ l us H',Same H H'->H l=none->H' l=some (.lst us)->TermsAt H' us t.rp.reverse->Q (.ref l) H'
theorem ok_steps {f:Addr}{fd:FuncData}(F:Fun K "_law_steps" "_law_steps" s_law_steps f fd) (T:Bi mg):FnOk P w K mg base CX0 1 f fd ["_law_term"] spSteps:=by
  refine F.ok sc_law_steps (fun vs H Q E h=>?_) (fun cdv A outer s H vs Q E hr h=>?_)
  · obtain ⟨_,_,rfl,_⟩:=h
    rfl
  obtain ⟨v,t,rfl,ht,hn,q⟩:=h
  refine ⟨_,(pss_cons (ps_set (i:=1) sc_law_steps.nd rfl (Or.inl rfl) (pe_lst pa_nil))
      (pss_cons (ps_set (i:=2) sc_law_steps.nd rfl (Or.inl rfl) (pe_lst (pa_cons (pv 0) pa_nil)))
      (pss_cons (ps_while PassesOwn.never (pt_cmpR (op_neNil hr.units0) (pv 2) (pe_lst pa_nil) (nomark _)) (pss_cons (ps_set (i:=3) sc_law_steps.nd rfl (Or.inl rfl) (pe_bm0 PySem.F.plainAttrs_list PySem.F.slot_list_pop PySem.F.type_list_pop mt_pop (pv 2)))
        (pss_cons (ps_expr (pe_bm PySem.F.plainAttrs_list PySem.F.slot_list_append PySem.F.type_list_append mt_append (pv 1) (pa_cons (pv 3) pa_nil)))
        (pss_one (ps_if (pt_cmpR op_eq (pe_ix ix_tup (pv 3) pe_int (fun _ _=>rfl)) pe_str (nomark _)) (pss_one (ps_expr (pe_bm PySem.F.plainAttrs_list PySem.F.slot_list_extend PySem.F.type_list_extend mt_extend (pv 2) (pa_cons (pe_bty call_list_of T.b_list bt_list (pa_cons (pe_ix ix_tup (pv 3) pe_int (fun _ _=>rfl)) pa_nil)) pa_nil)))) pss_nil)))))
      (pss_one (ps_ret (pe_listrevL T.b_list T.b_reversed (pv 1))))))),?_⟩
  refine ⟨(by show 0<=sizeLine;decide),fun p1 hp1=>?_⟩
  have s1:=same_new hp1 (HO.lst [])
  have x1:upd H p1 (HO.lst []) p1=some _:=upd_same
  generalize upd H p1 (HO.lst [])=H1 at s1 x1 |-
  refine ⟨_,rfl,(by show 1<=sizeLine;decide),fun p2 hp2=>?_⟩
  have s2:=same_new hp2 (HO.lst [v])
  have x2:upd H1 p2 (HO.lst [v]) p2=some _:=upd_same
  have n12:p1≠p2:=ne_of_none x1 hp2
  have f2:H p2=none:=s1.free hp2
  generalize upd H1 p2 (HO.lst [v])=H2 at s2 x2 |-
  refine ⟨fun m σ H3=>∃ (o:Option V) (rs us:List V) (done ts:List Tm),σ=[some v,some (.ref p1),some (.ref p2),o]/\Same H H3/\H3 p1=some (.lst rs)/\TermsAt H3 rs done/\H3 p2=some (.lst us)/\TermsAt H3 us ts /\
      nodesL ts=m/\done++rpL ts=t.rp/\done.length+m<=t.nodes,
    ⟨_,none,[],[v],[],[t],rfl,s1.trans s2,s2 _ _ x1,.nil,x2,.cons (ht.mono (.of (s1.trans s2))) .nil,rfl,by simp [rpL],by simp [nodesL]⟩,?_⟩
  rintro m σ H3 ⟨o,rs,us,done,ts,rfl,s3,g1,hrs,g2,hus,hm,hout,hsz⟩
  refine ⟨_,rfl,(by show 0<=sizeLine;decide),fun e he=>?_⟩
  have sE:=same_new he (HO.lst [])
  have xE:upd H3 e (HO.lst []) e=some _:=upd_same
  generalize upd H3 e (HO.lst [])=HE at sE xE |-
  have g1:=sE _ _ g1
  have g2:=sE _ _ g2
  have s3:=s3.trans sE
  have hus:=hus.mono (.of sE)
  have hrs:=hrs.mono (.of sE)
  refine ⟨p2,e,us,rfl,rfl,g2,xE,_,rfl,ite2 (fun c=>⟨_,fun _ _ h=>h,?_⟩) (fun c=>?_)⟩
  ·
    have hne:us≠[]:=by intro z;rw [z] at c;exact absurd c (by decide)
    have hlen:=hus.len
    obtain ⟨us0,u,rfl⟩:=snoc_of hne
    obtain ⟨ts0,t1,rfl⟩:=snoc_of (l:=ts) (by intro z;rw [z] at hlen;simp at hlen)
    obtain ⟨h0,hu1⟩:=hus.snoc
    rw [nodesL_append] at hm
    simp only [nodesL] at hm
    rw [rpL_append] at hout
    simp only [rpL,List.nil_append] at hout
    have hl0:=len_le_nodes ts0
    have hu0:=h0.len
    have hr0:=hrs.len
    have hn1:=t1.nodes_pos
    refine ⟨_,rfl,.inl ⟨rfl,_,SqL.of g2⟩,p2,_,u,rfl,rfl,g2,by simp,?_⟩
    rw [List.dropLast_concat]
    have k4:TSame HE (upd HE p2 (HO.lst us0)):=.lst g2
    have x4:upd HE p2 (HO.lst us0) p2=some _:=upd_same
    have y4:upd HE p2 (HO.lst us0) p1=some (.lst rs):=by rw [upd_ne n12];exact g1
    have s4:Same H (upd HE p2 (HO.lst us0)):=fun b ob z=>by rw [upd_ne (ne_of_none z f2)];exact s3 _ _ z
    generalize upd HE p2 (HO.lst us0)=H4 at k4 x4 y4 s4 |-
    refine ⟨_,rfl,.inl ⟨rfl,_,SqL.of y4⟩,_,rfl,p1,_,_,rfl,rfl,y4,big (by omega),?_⟩
    have k5:TSame H4 (upd H4 p1 (HO.lst (rs++[u]))):=.lst y4
    have x5:upd H4 p1 (HO.lst (rs++[u])) p1=some _:=upd_same
    have y5:upd H4 p1 (HO.lst (rs++[u])) p2=some (.lst us0):=by rw [upd_ne n12.symm];exact x4
    have s5:Same H (upd H4 p1 (HO.lst (rs++[u]))):=fun b ob z=>by rw [upd_ne (ne_of_none z hp1)];exact s4 _ _ z
    generalize upd H4 p1 (HO.lst (rs++[u]))=H5 at k5 x5 y5 s5 |-
    have h5:=(h0.mono k4).mono k5
    have ht1:=(hu1.mono k4).mono k5
    have hd5:TermsAt H5 (rs++[u]) (done++[t1]):=((hrs.mono k4).mono k5).app (.cons ht1 .nil)
    cases t1 with
    | num n =>
      obtain ⟨a,rfl,e1⟩:=termAt_num.mp ht1
      refine ⟨_,rfl,_,_,_,_,rfl,rfl,SqT.of e1,rfl,rfl,_,rfl,ite_f (by decide +kernel) ?_⟩
      exact ⟨nodesL ts0,by omega,_,_,us0,_,ts0,rfl,s5,x5,hd5,y5,h5,rfl,by simpa [Tm.rp] using hout,by rw [zLA];simp only [zLC,zLN];omega⟩
    | name n =>
      obtain ⟨a,rfl,e1⟩:=termAt_name.mp ht1
      refine ⟨_,rfl,_,_,_,_,rfl,rfl,SqT.of e1,rfl,rfl,_,rfl,ite_f (by decide +kernel) ?_⟩
      exact ⟨nodesL ts0,by omega,_,_,us0,_,ts0,rfl,s5,x5,hd5,y5,h5,rfl,by simpa [Tm.rp] using hout,by rw [zLA];simp only [zLC,zLN];omega⟩
    | blank n =>
      obtain ⟨a,rfl,e1⟩:=termAt_blank.mp ht1
      refine ⟨_,rfl,_,_,_,_,rfl,rfl,SqT.of e1,rfl,rfl,_,rfl,ite_f (by decide +kernel) ?_⟩
      exact ⟨nodesL ts0,by omega,_,_,us0,_,ts0,rfl,s5,x5,hd5,y5,h5,rfl,by simpa [Tm.rp] using hout,by rw [zLA];simp only [zLC,zLN];omega⟩
    | thing n qs =>
      obtain ⟨a,b,pv,rfl,e1,e2,e3⟩:=termAt_thing.mp ht1
      have hpl:=e3.len
      have hpn:=len_le_nodes qs
      simp only [Tm.nodes] at hm
      refine ⟨_,rfl,_,_,_,_,rfl,rfl,SqT.of e1,rfl,rfl,_,rfl,ite_t (by decide +kernel) ?_⟩
      refine ⟨_,rfl,.inl ⟨rfl,_,SqL.of y5⟩,_,rfl,_,_,_,_,rfl,rfl,SqT.of e1,rfl,b,pv,rfl,.inr (SqT.of e2),fun l hl=>?_⟩
      have s6:=same_new hl (HO.lst pv)
      have x6:upd H5 l (HO.lst pv) l=some _:=upd_same
      generalize upd H5 l (HO.lst pv)=H6 at s6 x6 |-
      refine ⟨p2,l,us0,pv,rfl,rfl,s6 _ _ y5,x6,small (by omega),?_⟩
      have k7:TSame H6 (upd H6 p2 (HO.lst (us0++pv))):=.lst (s6 _ _ y5)
      refine ⟨nodesL ts0+nodesL qs,by omega,_,_,us0++pv,_,ts0++qs,rfl,fun b' ob z=>by rw [upd_ne (ne_of_none z f2)];exact s6 _ _ (s5 _ _ z),by rw [upd_ne n12];exact s6 _ _ x5,TermsAt.mono k7 (hd5.mono (.of s6)),upd_same,
        TermsAt.mono k7 ((h5.mono (.of s6)).app (e3.mono (.of s6))),by rw [nodesL_append],?_,by rw [zLA];simp only [zLC,zLN];omega⟩
      rw [rpL_append,<- hout]
      simp [Tm.rp]
  · have e:us=[]:=by
      cases us with
      | nil=>rfl
      | cons a b=>exact absurd rfl c
    subst e
    have hlen:=hus.len
    have e:ts=[]:=List.length_eq_zero_iff.mp hlen.symm
    subst e
    have e2:done=t.rp:=by simpa [rpL] using hout
    refine ⟨_,rfl,p1,rs,rfl,SqL.of g1,fun l hl=>?_⟩
    refine q l _ _ (s3.trans (same_new hl _)) (s3.free hl) upd_same ?_
    rw [<- e2]
    exact (terms_rev hrs).mono (.new hl)
end
section
variable {P:Program}{w:World}{K:PySem.W.Frag}{mg:Str->Option Value}{base:Heap}
theorem inV_words (x:Str) (acc:List Str):inV (.str x) (acc.map V.str)=decide (x∈acc):=by
  induction acc with
  | nil=>rfl
  | cons y r ih =>
    have e:inV (.str x) ((y::r).map V.str)=(eqV (.str y) (.str x)||inV (.str x) (r.map V.str)):=rfl
    rw [e,ih]
    by_cases z:y=x
    · subst z;simp [eqV]
    · have z':¬ x=y:=fun q=>z q.symm
      simp [eqV,z,z']
theorem flat_words (acc:List Str):(acc.map V.str).all flatV=true:=by
  simp [List.all_map,List.all_eq_true,flatV]
theorem ok_blanks {f:Addr}{fd:FuncData}(F:Fun K "_law_blanks" "_law_blanks" s_law_blanks f fd) (T:Bi mg) (c__law_steps:Cal P w K mg base 1 "_law_steps" ["_law_term"] spSteps):FnOk P w K mg base CX0 2 f fd ["_law_term"] spBlanks:=by
  refine F.ok sc_law_blanks (fun vs H Q E h=>?_) (fun cdv A outer s H vs Q E hr h=>?_)
  · obtain ⟨_,_,rfl,_⟩:=h
    rfl
  obtain ⟨v,t,rfl,ht,hn,q⟩:=h
  refine ⟨_,(pss_cons (ps_set (i:=1) sc_law_blanks.nd rfl (Or.inl rfl) (pe_lst pa_nil))
      (pss_cons (ps_for PassesOwn.never rfl (pi_list (pe_cal c__law_steps (hr.mono (by decide)) (pa_cons (pv 0) pa_nil))) (pg_name (i:=2) sc_law_blanks.nd rfl (Or.inl rfl)) (pss_one (ps_if (pw_and (pt_cmpR op_eq (pe_ix ix_tup (pv 2) pe_int (fun _ _=>rfl)) pe_str (nomark _)) (pw_and1 (pt_cmpR op_notIn_seq (pe_ix ix_tup (pv 2) pe_int (fun _ _=>rfl)) (pv 1) (by with_unfolding_all rfl)))).pt (pss_one (ps_expr (pe_bm PySem.F.plainAttrs_list PySem.F.slot_list_append PySem.F.type_list_append mt_append (pv 1) (pa_cons (pe_ix ix_tup (pv 2) pe_int (fun _ _=>rfl)) pa_nil)))) pss_nil)))
      (pss_one (ps_ret (pv 1))))),?_⟩
  refine ⟨(by show 0<=sizeLine;decide),fun p hp=>?_⟩
  have s1:=same_new hp (HO.lst [])
  have x1:upd H p (HO.lst []) p=some _:=upd_same
  generalize upd H p (HO.lst [])=H1 at s1 x1 |-
  refine ⟨_,rfl,v,t,rfl,ht.mono (.of s1),hn,fun l us H2 s2 _ g2 hus=>⟨l,rfl,⟨_,SqL.of g2⟩,?_⟩⟩
  have npl:p≠l:=by
    rintro rfl
    have z:=s2 _ _ x1
    rw [g2] at z
    cases z
    have:=hus.len
    rw [List.length_reverse,len_rp] at this
    have:=t.nodes_pos
    simp at *
    omega
  have hlu:=hus.len
  rw [List.length_reverse,len_rp] at hlu
  refine for_list (K:=K) (a:=l) (xs:=us) (fun i σ H3=>∃ (o:Option V) (acc:List Str),σ=[some v,some (.ref p),o]/\Same H H3/\H3 l=some (.lst us)/\TermsAt H3 us t.rp.reverse/\H3 p=some (.lst (acc.map V.str)) /\
      acc.length<=i/\addAll [] ((t.rp.reverse.take i).flatMap Tm.b1)=acc)
    ⟨none,[],rfl,s1.trans s2,g2,hus,s2 _ _ x1,Nat.zero_le _,rfl⟩ (fun i σ H3 _ ⟨_,_,_,_,g,_⟩=>SqL.of g) ?_ ?_
  · rintro i y σ H3 hi ⟨o,acc,rfl,s3,g3,h3,gp,hal,hacc⟩
    obtain ⟨hi1,hi2⟩:=List.getElem?_eq_some_iff.mp hi
    have hti:i<t.rp.reverse.length:=by rw [List.length_reverse,len_rp];omega
    have hy:=h3.at i hi1 hti
    rw [hi2] at hy
    have etk:(t.rp.reverse.take (i+1)).flatMap Tm.b1=(t.rp.reverse.take i).flatMap Tm.b1++(t.rp.reverse[i]).b1:=by
      rw [List.take_succ_eq_append_getElem hti,List.flatMap_append]
      simp
    generalize t.rp.reverse[i]=u at hy etk
    cases u with
    | num n =>
      obtain ⟨a,rfl,e1⟩:=termAt_num.mp hy
      refine ⟨_,rfl,_,_,_,_,rfl,rfl,SqT.of e1,rfl,rfl,_,rfl,ite_f (by decide +kernel) ?_⟩
      exact ⟨_,acc,rfl,s3,g3,h3,gp,by omega,by rw [etk,<- hacc];simp [Tm.b1]⟩
    | name n =>
      obtain ⟨a,rfl,e1⟩:=termAt_name.mp hy
      refine ⟨_,rfl,_,_,_,_,rfl,rfl,SqT.of e1,rfl,rfl,_,rfl,ite_f (by decide +kernel) ?_⟩
      exact ⟨_,acc,rfl,s3,g3,h3,gp,by omega,by rw [etk,<- hacc];simp [Tm.b1]⟩
    | thing n qs =>
      obtain ⟨a,b,pv,rfl,e1,e2,e3⟩:=termAt_thing.mp hy
      refine ⟨_,rfl,_,_,_,_,rfl,rfl,SqT.of e1,rfl,rfl,_,rfl,ite_f (by decide +kernel) ?_⟩
      exact ⟨_,acc,rfl,s3,g3,h3,gp,by omega,by rw [etk,<- hacc];simp [Tm.b1]⟩
    | blank n =>
      obtain ⟨a,rfl,e1⟩:=termAt_blank.mp hy
      have en:addAll [] ((t.rp.reverse.take (i+1)).flatMap Tm.b1)=if n∈acc then acc else acc++[n]:=by
        rw [etk,addAll_append,hacc]
        simp only [Tm.b1,addAll]
      refine ⟨_,rfl,_,_,_,_,rfl,rfl,SqT.of e1,rfl,rfl,_,rfl,ite_t (by decide +kernel) ?_⟩
      refine ⟨_,rfl,_,_,_,_,rfl,rfl,SqT.of e1,rfl,_,rfl,p,_,rfl,.inl (SqL.of gp),rfl,flat_words acc,_,rfl,ite2 (fun c=>?_) (fun c=>?_)⟩
      · have c':n∉acc:=by
          intro z
          rw [inV_words] at c
          simp [z] at c
        refine ⟨_,rfl,.inl ⟨rfl,_,SqL.of gp⟩,_,rfl,_,_,_,_,rfl,rfl,SqT.of e1,rfl,p,_,_,rfl,rfl,gp,big (by rw [zLM];omega),?_⟩
        have k4:TSame H3 (upd H3 p (HO.lst (acc.map V.str++[.str n]))):=.lst gp
        refine ⟨_,acc++[n],rfl,fun b ob z=>by rw [upd_ne (ne_of_none z hp)];exact s3 _ _ z,by rw [upd_ne npl.symm];exact g3,h3.mono k4,by rw [upd_same,List.map_append];rfl,by rw [zLA];simp only [zLC,zLN];omega,by rw [en,if_neg c']⟩
      · have c':n∈acc:=by
          rw [inV_words] at c
          simpa using c
        exact ⟨_,acc,rfl,s3,g3,h3,gp,by omega,by rw [en,if_pos c']⟩
  · rintro σ H3 ⟨o,acc,rfl,s3,g3,h3,gp,hal,hacc⟩
    rw [hlu,<- len_rp,<- List.length_reverse,List.take_length,b1_rp] at hacc
    refine ⟨_,rfl,q p H3 s3 ?_⟩
    rw [gp,<- hacc]
    rfl
end
section
variable {P:Program}{w:World}{K:PySem.W.Frag}{mg:Str->Option Value}{base:Heap}
def spFill:Sp:=fun vs H Q _=>∃ (v:V) (t:Tm) (l:Addr) (ps:List V) (f:Fl),vs=[v,.ref l]/\TermAt H v t/\t.nodes<=5000000/\H l=some (.lst ps)/\FillAt H ps f/\(f.map (·.1)).Nodup/\∀ v' H',Same H H'->TermAt H' v' (t.fill f)->Q v' H'
theorem ok_fill {f0:Addr}{fd:FuncData}(F:Fun K "_law_fill" "_law_fill" s_law_fill f0 fd) (T:Bi mg) (c__law_steps:Cal P w K mg base 1 "_law_steps" ["_law_term"] spSteps):FnOk P w K mg base CX0 2 f0 fd ["_law_term","_law_pairs"] spFill:=by
  refine F.ok sc_law_fill (fun vs H Q E h=>?_) (fun cdv A outer s H vs Q E hr h=>?_)
  · obtain ⟨_,_,_,_,_,rfl,_⟩:=h
    rfl
  obtain ⟨v,t,l,ps,f,rfl,ht,hn,hl,hf,hnd,q⟩:=h
  have hfl:=hf.len
  refine ⟨_,(pss_cons (ps_set (i:=2) sc_law_fill.nd rfl (Or.inl rfl) (pe_lst pa_nil))
      (pss_cons (ps_for PassesOwn.never rfl (pi_list (pe_cal c__law_steps (hr.mono (by decide)) (pa_cons (pv 0) pa_nil))) (pg_name (i:=3) sc_law_fill.nd rfl (Or.inl rfl)) (pss_cons (ps_set (i:=4) sc_law_fill.nd rfl (Or.inl rfl) (pv 3))
        (pss_cons (ps_if (pt_cmpR op_eq (pe_ix ix_tup (pv 3) pe_int (fun _ _=>rfl)) pe_str (nomark _)) (pss_cons (ps_set (i:=5) sc_law_fill.nd rfl (Or.inl rfl) (pe_op op_sub (pe_blt call_len_seq T.b_len bt_len (pa_cons (pv 2) pa_nil)) (pe_blt call_len_seq T.b_len bt_len (pa_cons (pe_ix ix_tup (pv 3) pe_int (fun _ _=>rfl)) pa_nil))))
          (pss_cons (ps_set (i:=4) sc_law_fill.nd rfl (Or.inl rfl) (pe_tup (pa_cons pe_str (pa_cons (pe_ix ix_tup (pv 3) pe_int (fun _ _=>rfl)) (pa_cons (pe_bty call_tuple_of T.b_tuple bt_tuple (pa_cons (pe_slice sl_list (pv 2) (po_some (pv 5)) po_none) pa_nil)) pa_nil)))))
          (pss_one (ps_set (i:=2) sc_law_fill.nd rfl (Or.inl rfl) (pe_slice sl_list (pv 2) po_none (po_some (pv 5))))))) (pss_one (ps_if (pt_cmpR op_eq (pe_ix ix_tup (pv 3) pe_int (fun _ _=>rfl)) pe_str (nomark _)) (pss_one (ps_for PassesOwn.never rfl (pi_list (pv 1)) (pg_name (i:=6) sc_law_fill.nd rfl (Or.inl rfl)) (pss_one (ps_if (pt_cmpR op_eq (pe_ix ix_tup (pv 6) pe_int (fun _ _=>rfl)) (pe_ix ix_tup (pv 3) pe_int (fun _ _=>rfl)) (nomark _)) (pss_one (ps_set (i:=4) sc_law_fill.nd rfl (Or.inl rfl) (pe_ix ix_tup (pv 6) pe_int (fun _ _=>rfl)))) pss_nil)))) pss_nil)))
        (pss_one (ps_expr (pe_bm PySem.F.plainAttrs_list PySem.F.slot_list_append PySem.F.type_list_append mt_append (pv 2) (pa_cons (pv 4) pa_nil)))))))
      (pss_one (ps_ret (pe_ix ix_list (pv 2) pe_int (fun _ _=>rfl)))))),?_⟩
  refine ⟨(by show 0<=sizeLine;decide),fun p0 hp0=>?_⟩
  have s1:=same_new hp0 (HO.lst [])
  have x1:upd H p0 (HO.lst []) p0=some _:=upd_same
  generalize upd H p0 (HO.lst [])=H1 at s1 x1 |-
  refine ⟨_,rfl,v,t,rfl,ht.mono (.of s1),hn,fun ls us H2 s2 fls hls hus=>?_⟩
  have s02:=s1.trans s2
  have hul:=hus.len
  rw [List.length_reverse,len_rp] at hul
  refine ⟨ls,rfl,⟨_,SqL.of hls⟩,for_list (K:=K) (a:=ls) (xs:=us) (fun i σ H3=>∃ (o3 o4 o5 o6:Option V) (p:Addr) (ms:List V) (made:List Tm),σ=[some v,some (.ref l),some (.ref p),o3,o4,o5,o6]/\Same H H3/\H3 ls=some (.lst us)/\TSame H2 H3/\p≠ls/\H p=none/\H3 p=some (.lst ms)/\TermsAt H3 ms made /\
      made=grun f [] (t.rp.reverse.take i)/\Fit made.length (t.rp.reverse.drop i)/\made.length<=i)
    ⟨none,none,none,none,p0,[],[],rfl,s02,hls,.refl _,ne_of_none x1 fls,hp0,s2 _ _ x1,.nil,by simp [grun],by simpa using fit_rall t,Nat.le_refl _⟩ (fun i σ H3 _ ⟨_,_,_,_,_,_,_,_,_,g,_⟩=>SqL.of g) ?_ ?_⟩
  · rintro i x σ H3 hx ⟨o3,o4,o5,o6,p,ms,made,rfl,s3,gl,k3,npl,fp,gp,gms,hmade,hfit,hml⟩
    have hi:i<us.length:=(List.getElem?_eq_some_iff.mp hx).1
    have hir:i<t.rp.reverse.length:=by rw [List.length_reverse,len_rp];omega
    have hxt:TermAt H3 x (t.rp.reverse[i]):=by
      have h1:=(hus.mono k3).at i hi hir
      rw [(List.getElem?_eq_some_iff.mp hx).2] at h1
      exact h1
    have hrun:grun f [] (t.rp.reverse.take (i+1))=gturn f made (t.rp.reverse[i]):=by
      rw [List.take_succ_eq_append_getElem hir,grun_append,<- hmade]
      rfl
    rw [List.drop_eq_getElem_cons hir] at hfit
    have gml:=gms.len
    generalize hpt:t.rp.reverse[i]=pt at hxt hrun hfit
    refine ⟨_,rfl,?_⟩
    show Ends.nx _ _ _
    with_reducible show tSeq _ _ _ _ _
    refine tSeq_cut (fun σ H4=>∃ (o5 o6:Option V) (p:Addr) (ms:List V) (made:List Tm) (mv:V) (tm:Tm),σ=[some v,some (.ref l),some (.ref p),some x,some mv,o5,o6]/\Same H H4/\H4 ls=some (.lst us)/\TSame H2 H4/\p≠ls/\H p=none/\H4 p=some (.lst ms)/\TermsAt H4 ms made/\TermAt H4 mv tm /\
      gturn f (grun f [] (t.rp.reverse.take i)) pt=made++[tm]/\Fit (made.length+1) (t.rp.reverse.drop (i+1))/\made.length<=i) ?_ (fun key=>?_)
    rotate_left
    · rw [hmade] at hrun
      cases pt with
      | num n =>
        obtain ⟨a,rfl,e1⟩:=termAt_num.mp hxt
        refine ⟨_,rfl,_,_,_,_,rfl,rfl,SqT.of e1,rfl,rfl,_,rfl,ite_f (by decide +kernel) ?_⟩
        refine ⟨_,rfl,_,_,_,_,rfl,rfl,SqT.of e1,rfl,rfl,_,rfl,ite_f (by decide +kernel) ?_⟩
        exact key _ _ ⟨_,_,p,ms,made,_,.num n,rfl,s3,gl,k3,npl,fp,gp,gms,hxt,by rw [<- hmade];rfl,by simpa [Fit] using hfit,hml⟩
      | name n =>
        obtain ⟨a,rfl,e1⟩:=termAt_name.mp hxt
        refine ⟨_,rfl,_,_,_,_,rfl,rfl,SqT.of e1,rfl,rfl,_,rfl,ite_f (by decide +kernel) ?_⟩
        refine ⟨_,rfl,_,_,_,_,rfl,rfl,SqT.of e1,rfl,rfl,_,rfl,ite_f (by decide +kernel) ?_⟩
        exact key _ _ ⟨_,_,p,ms,made,_,.name n,rfl,s3,gl,k3,npl,fp,gp,gms,hxt,by rw [<- hmade];rfl,by simpa [Fit] using hfit,hml⟩
      | blank n =>
        obtain ⟨a,rfl,e1⟩:=termAt_blank.mp hxt
        refine ⟨_,rfl,_,_,_,_,rfl,rfl,SqT.of e1,rfl,rfl,_,rfl,ite_f (by decide +kernel) ?_⟩
        refine ⟨_,rfl,_,_,_,_,rfl,rfl,SqT.of e1,rfl,rfl,_,rfl,ite_t (by decide +kernel) ?_⟩
        refine ⟨_,rfl,l,rfl,⟨_,SqL.of (s3 _ _ hl)⟩,for_list (K:=K) (a:=l) (xs:=ps) (fun j σ H4=>H3=H4/\∃ (o6:Option V) (mv:V),σ=[some v,some (.ref l),some (.ref p),some (.ref a),some mv,o5,o6]/\TermAt H3 mv ((look (f.take j) n).getD (.blank n)))
          ⟨rfl,_,_,rfl,by simpa [look] using hxt⟩ (fun j σ H4 _ ⟨e,_⟩=>by rw [<- e];exact SqL.of (s3 _ _ hl)) ?_ ?_⟩
        · rintro j y σ H4 hy ⟨rfl,o6,mv,rfl,hmv⟩
          have hj:j<ps.length:=(List.getElem?_eq_some_iff.mp hy).1
          have hj':j<f.length:=by omega
          obtain ⟨a2,v2,ea,ha0,hv0⟩:=hf.get j hj hj'
          have ey:y=.ref a2:=by rw [<- ea];exact ((List.getElem?_eq_some_iff.mp hy).2).symm
          subst ey
          have ha:=s3 _ _ ha0
          refine ⟨_,rfl,_,_,_,_,rfl,rfl,SqT.of ha,rfl,_,rfl,_,_,_,_,rfl,rfl,SqT.of e1,rfl,rfl,_,rfl,ite2 (fun c=>?_) (fun c=>?_)⟩
          · have c':f[j].1=n:=V.str.inj (of_decide_eq_true c)
            refine ⟨_,rfl,_,_,_,_,rfl,rfl,SqT.of ha,rfl,rfl,_,_,rfl,?_⟩
            have e2:look (f.take (j+1)) n=some f[j].2:=by
              rw [List.take_succ_eq_append_getElem hj',look_append]
              have:look (f.take j) n=none:=look_out fun z=>by
                obtain ⟨q,hq,eq⟩:=List.mem_map.mp z
                obtain ⟨k,hk,ek⟩:=List.getElem_of_mem hq
                rw [List.length_take] at hk
                rw [List.getElem_take] at ek
                have:=List.pairwise_iff_getElem.mp hnd k j (by rw [zLM];omega) (by rw [zLM];omega) (by omega)
                rw [List.getElem_map,List.getElem_map,ek,eq,c'] at this
                exact this rfl
              rw [this,Option.none_or,look_cons,if_pos c']
            rw [e2]
            exact hv0.mono (.of s3)
          · have c':¬ f[j].1=n:=fun z=>c (decide_eq_true (congrArg V.str z))
            refine ⟨rfl,_,mv,rfl,?_⟩
            rw [List.take_succ_eq_append_getElem hj',look_append,look_cons,if_neg c']
            have:look ([]:Fl) n=none:=rfl
            rw [this,Option.or_none]
            exact hmv
        · rintro σ H4 ⟨rfl,o6,mv,rfl,hmv⟩
          rw [List.take_of_length_le (by omega)] at hmv
          exact key _ _ ⟨_,_,p,ms,made,mv,_,rfl,s3,gl,k3,npl,fp,gp,gms,hmv,by rw [<- hmade];rfl,by simpa [Fit] using hfit,hml⟩
      | thing n qs =>
        obtain ⟨a,b,pv,rfl,e1,e2,e3⟩:=termAt_thing.mp hxt
        have hpl:=e3.len
        simp only [Fit] at hfit
        obtain ⟨hf1,hf2⟩:=hfit
        have j0:0<=(ms.length:Int) - (pv.length:Int):=by omega
        have j1:(ms.length:Int) - (pv.length:Int)<=ms.length:=by omega
        have ej:((ms.length:Int) - (pv.length:Int)).toNat=made.length - qs.length:=by omega
        refine ⟨_,rfl,_,_,_,_,rfl,rfl,SqT.of e1,rfl,rfl,_,rfl,ite_t (by decide +kernel) ?_⟩
        refine ⟨_,rfl,p,ms,rfl,.inl (SqL.of gp),_,rfl,_,_,_,_,rfl,rfl,SqT.of e1,rfl,b,pv,rfl,.inr (SqT.of e2),_,_,rfl,rfl,?_⟩
        refine ⟨_,rfl,_,_,_,_,rfl,rfl,SqT.of e1,rfl,_,rfl,_,rfl,_,rfl,p,ms,rfl,SqL.of gp,fun l2 hl2=>?_⟩
        rw [cut_from ms _ j0 j1,ej]
        have s4:=same_new hl2 (HO.lst (ms.drop (made.length - qs.length)))
        have x4:upd H3 l2 (HO.lst (ms.drop (made.length - qs.length))) l2=some _:=upd_same
        generalize upd H3 l2 (HO.lst (ms.drop (made.length - qs.length)))=H4 at s4 x4 |-
        refine ⟨l2,_,rfl,.inl ⟨SqL.of x4,fun b2 hb2=>?_⟩⟩
        have s5:=same_new hb2 (HO.tup (ms.drop (made.length - qs.length)))
        have x5:upd H4 b2 (HO.tup (ms.drop (made.length - qs.length))) b2=some _:=upd_same
        generalize upd H4 b2 (HO.tup (ms.drop (made.length - qs.length)))=H5 at s5 x5 |-
        refine ⟨(by show 3<=sizeLine;decide),fun g hg=>?_⟩
        have s6:=same_new hg (HO.tup [.str "thing",.str n,.ref b2])
        have x6:upd H5 g (HO.tup [.str "thing",.str n,.ref b2]) g=some _:=upd_same
        generalize upd H5 g (HO.tup [.str "thing",.str n,.ref b2])=H6 at s6 x6 |-
        have s36:=s4.trans (s5.trans s6)
        refine ⟨_,rfl,_,rfl,_,rfl,p,ms,rfl,SqL.of (s36 _ _ gp),fun p7 hp7=>?_⟩
        rw [cut_to ms _ j0 j1,ej]
        have s7:=same_new hp7 (HO.lst (ms.take (made.length - qs.length)))
        have x7:upd H6 p7 (HO.lst (ms.take (made.length - qs.length))) p7=some _:=upd_same
        have np7:p7≠ls:=Ne.symm (ne_of_none (s36 _ _ gl) hp7)
        have fp7:H p7=none:=(s3.trans s36).free hp7
        generalize upd H6 p7 (HO.lst (ms.take (made.length - qs.length)))=H7 at s7 x7 |-
        have s37:=s36.trans s7
        refine key _ _ ⟨_,_,p7,_,made.take (made.length - qs.length),_,.thing n (made.drop (made.length - qs.length)),rfl,s3.trans s37,s37 _ _ gl,k3.trans (.of s37),np7,fp7,x7,(gms.mono (.of s37)).takeN _,?_,by rw [<- hmade];rfl,?_,?_⟩
        · exact termAt_thing.mpr ⟨g,b2,_,rfl,s7 _ _ x6,s7 _ _ (s6 _ _ x5),(gms.mono (.of s37)).dropN _⟩
        · have e5:(made.take (made.length - qs.length)).length=made.length - qs.length:=by rw [List.length_take];omega
          rw [e5]
          exact hf2
        · rw [List.length_take];omega
    rintro σ H4 ⟨o5,o6,p,ms,made2,mv,tm,rfl,s4,gl4,k4,npl4,fp4,gp4,gms4,hmv,hgt,hfit4,hml4⟩
    have hl4:=gms4.len
    refine ⟨_,rfl,.inl ⟨rfl,_,SqL.of gp4⟩,_,rfl,p,_,_,rfl,rfl,gp4,big (by omega),?_⟩
    have k5:TSame H4 (upd H4 p (HO.lst (ms++[mv]))):=.lst gp4
    refine ⟨_,_,_,_,p,_,made2++[tm],rfl,fun b ob z=>by rw [upd_ne (ne_of_none z fp4)];exact s4 _ _ z,by rw [upd_ne (Ne.symm npl4)];exact gl4,k4.trans k5,npl4,fp4,upd_same,TermsAt.mono k5 (gms4.app (.cons hmv .nil)),?_,by simpa using hfit4,by simp;omega⟩
    rw [hrun,<- hgt,hmade]
  · rintro σ H3 ⟨o3,o4,o5,o6,p,ms,made,rfl,s3,gl,k3,npl,fp,gp,gms,hmade,hfit,hml⟩
    have e:made=[t.fill f]:=by
      rw [hmade,List.take_of_length_le (by rw [List.length_reverse,len_rp];omega),grun_rp]
      rfl
    subst e
    have gml:=gms.len
    match ms,gml,gms,gp with
    | [u],_,gms,gp =>
      refine ⟨_,rfl,p,_,_,u,rfl,rfl,SqL.of gp,rfl,?_⟩
      exact q u H3 s3 (gms.at 0 (by simp) (by simp))
end
end K08
namespace BF
open PySem Classical
noncomputable def cnt (σ:Str->Tm) (m:Nat):List Tm->Nat
  | []=>0
  | t::r=>(if isT t=true/\(t.sub σ).nodes<=m then 1 else 0)+cnt σ m r
theorem cnt_mono {σ:Str->Tm}{m n:Nat}(h:m<=n):∀ U:List Tm,cnt σ m U<=cnt σ n U
  | []=>Nat.le_refl _
  | t::r=>by
    have ih:=cnt_mono (σ:=σ) h r
    simp only [cnt]
    by_cases c:isT t=true/\(t.sub σ).nodes<=m
    · rw [if_pos c,if_pos ⟨c.1,Nat.le_trans c.2 h⟩];omega
    · rw [if_neg c];omega
theorem cnt_less {σ:Str->Tm}{m:Nat}{t:Tm}(hT:isT t=true) (h:m<(t.sub σ).nodes):∀ {U:List Tm},t∈U->cnt σ m U+1<=cnt σ (t.sub σ).nodes U
  | [],hU=>by cases hU
  | a :: r,hU=>by
    simp only [cnt]
    rcases List.mem_cons.mp hU with z | z
    · subst z
      have:=cnt_mono (σ:=σ) (Nat.le_of_lt h) r
      rw [if_neg (by omega),if_pos ⟨hT,Nat.le_refl _⟩]
      omega
    · have ih:=cnt_less hT h z
      by_cases c:isT a=true/\(a.sub σ).nodes<=m
      · rw [if_pos c,if_pos ⟨c.1,by omega⟩];omega
      · rw [if_neg c];omega
theorem cnt_le {σ:Str->Tm}{m:Nat}:∀ U:List Tm,cnt σ m U<=U.length
  | []=>Nat.le_refl _
  | t::r=>by
    have ih:=cnt_le (σ:=σ) (m:=m) r
    simp only [cnt,zLC]
    split <;> omega
structure Cov (σ:Str->Tm) (U:List Tm):Prop where
  part:∀ w ps,Tm.thing w ps∈U->∀ p∈ps,p∈U
  blank:∀ x,Tm.blank x∈U->(σ x).nodes=1\/∃ e∈U,isT e=true/\σ x=e.sub σ
theorem Cov.deepT {σ:Str->Tm}{U:List Tm}(h:Cov σ U):∀ (n:Nat) (t:Tm),t∈U->isT t=true->(t.sub σ).nodes<=n->(t.sub σ).dp<=1+cnt σ (t.sub σ).nodes U:=by
  intro n
  induction n with
  | zero=>intro t _ _ hn;have:=(t.sub σ).nodes_pos;omega
  | succ n ih =>
    intro t ht hT hn
    cases t with
    | num _=>cases hT
    | name _=>cases hT
    | blank _=>cases hT
    | thing w ps =>
      have key:∀ p∈ps,(p.sub σ).dp<=cnt σ ((Tm.thing w ps).sub σ).nodes U:=fun p hp=>by
        have hlt:(p.sub σ).nodes<((Tm.thing w ps).sub σ).nodes:=nodes_zip hp
        have hpU:=h.part w ps ht p hp
        have hc:=cnt_less (σ:=σ) (m:=(p.sub σ).nodes) hT hlt ht
        have one:(p.sub σ).nodes=1->(p.sub σ).dp<=cnt σ ((Tm.thing w ps).sub σ).nodes U:=fun e=>by
          have:=dp_nodes (p.sub σ)
          omega
        cases p with
        | num _=>exact one rfl
        | name _=>exact one rfl
        | thing v qs =>
          have:=ih _ hpU rfl (by omega)
          omega
        | blank x =>
          rcases h.blank x hpU with e | ⟨e,he,hTe,ee⟩
          · exact one e
          · have es:(Tm.blank x).sub σ=e.sub σ:=ee
            rw [es] at hlt hc |-
            have:=ih e he hTe (by omega)
            omega
      have hd:((Tm.thing w ps).sub σ).dp=1+dpL (ps.map (Tm.sub σ)):=by simp only [Tm.sub,subL_map,Tm.dp]
      have:=dpL_le (n:=cnt σ ((Tm.thing w ps).sub σ).nodes U) (l:=ps.map (Tm.sub σ)) fun q hq=>by
        obtain ⟨p,hp,rfl⟩:=List.mem_map.mp hq
        exact key p hp
      omega
theorem Cov.deep {σ:Str->Tm}{U:List Tm}(h:Cov σ U) {t:Tm}(ht:t∈U):(t.sub σ).dp<=1+U.length:=by
  have one:(t.sub σ).nodes=1->(t.sub σ).dp<=1+U.length:=fun e=>by have:=dp_nodes (t.sub σ);omega
  have thing:∀ e∈U,isT e=true->(e.sub σ).dp<=1+U.length:=fun e he hT=>by
    have h1:=h.deepT _ e he hT (Nat.le_refl _)
    have h2:=cnt_le (σ:=σ) (m:=(e.sub σ).nodes) U
    omega
  cases t with
  | num _=>exact one rfl
  | name _=>exact one rfl
  | thing v qs=>exact thing _ ht rfl
  | blank x =>
    rcases h.blank x ht with e | ⟨e,he,hTe,ee⟩
    · exact one e
    · have es:(Tm.blank x).sub σ=e.sub σ:=ee
      rw [es]
      exact thing e he hTe
theorem blank_parts2 {g:Ln}{x:Str}:Tm.blank x∈parts2 g↔x∈g.1.bl\/x∈g.2.bl:=by
  unfold parts2
  rw [List.mem_append,<- List.mem_reverse,mem_rp_blank,<- List.mem_reverse (as:=g.2.rp),mem_rp_blank]
theorem bl_parts2 {g:Ln}{t:Tm}{x:Str}(ht:t∈parts2 g) (hx:x∈t.bl):x∈g.1.bl\/x∈g.2.bl:=by
  rw [<- blank_parts2]
  have hb:Tm.blank x∈t.rp:=by rw [<- List.mem_reverse];exact mem_rp_blank.mpr hx
  unfold parts2 at ht |-
  rcases List.mem_append.mp ht with z | z
  · exact List.mem_append_left _ (rp_trans _ z _ hb)
  · exact List.mem_append_right _ (rp_trans _ z _ hb)
def endsL (ks:List Str) (E:Str->Tm):Fl:=ks.map fun x=>(x,E x)
theorem endsL_keys (ks:List Str) (E:Str->Tm):(endsL ks E).map (·.1)=ks:=by simp [endsL,List.map_map,Function.comp_def]
theorem look_endsL (ks:List Str) (E:Str->Tm) (x:Str):look (endsL ks E) x=if x∈ks then some (E x) else none:=by
  induction ks with
  | nil=>rfl
  | cons a r ih =>
    have e:endsL (a::r) E=(a,E a)::endsL r E:=rfl
    have e2:look ((a,E a)::endsL r E) x=if a=x then some (E a) else look (endsL r E) x:=by
      by_cases c:a=x
      · simp [look,c]
      · simp [look,c]
    rw [e,e2,ih]
    by_cases c:a=x
    · subst c;simp
    · have c':¬ x=a:=fun z=>c z.symm
      rw [if_neg c]
      simp [c']
structure EndsOk (g:Ln) (nx:Nx) (ks:List Str) (E:Str->Tm):Prop where
  nd:ks.Nodup
  dom:∀ x,x∈ks↔(x∈g.1.bl\/x∈g.2.bl)/\nx (.blank x)≠none
  way:∀ x∈ks,∃ k,Rch nx k (.blank x) (E x)
  inU:∀ x∈ks,E x∈parts2 g
  key:∀ x,nx (.blank x)≠none->x∈g.1.bl\/x∈g.2.bl
theorem EndsOk.none' {g:Ln}{nx:Nx}{ks:List Str}{E:Str->Tm}(h:EndsOk g nx ks E) {x:Str}:x∉ks↔nx (.blank x)=none:=by
  constructor
  · intro hx
    cases z:nx (.blank x) with
    | none=>rfl
    | some u=>exact absurd ((h.dom x).mpr ⟨h.key x (by rw [z];simp),by rw [z];simp⟩) hx
  · intro z hx
    exact ((h.dom x).mp hx).2 z
theorem EndsOk.sol {g:Ln}{nx:Nx}{ks:List Str}{E:Str->Tm}(h:EndsOk g nx ks E) {f:Fl}(hs:Stl (endsL ks E) f) (hall:∀ x∈ks,x∈f.map (·.1)):∀ x k e,Rch nx k (.blank x) e->fsub f x=e.sub (fsub f):=fun x k e r=>by
  by_cases c:x∈ks
  · obtain ⟨k',r'⟩:=h.way x c
    rw [(r.det r').2]
    exact hs.eqn (by rw [look_endsL,if_pos c]) (hall x c)
  · rw [(r.of_root (h.none'.mp c)).2]
    rfl
theorem ends_own {ks:List Str}{E:Str->Tm}{f:Fl}(hs:Stl (endsL ks E) f) {x:Str}(c:x∉ks):fsub f x=.blank x:=by
  have:=hs.out (w:=x) (by rw [look_endsL,if_neg c])
  simp [fsub,this]
theorem EndsOk.cov {g:Ln}{nx:Nx}{ks:List Str}{E:Str->Tm}(h:EndsOk g nx ks E) {f:Fl}(hs:Stl (endsL ks E) f) (hall:∀ x∈ks,x∈f.map (·.1)):Cov (fsub f) (parts2 g) where
  part:=fun w ps h p hp=>parts2_part h hp
  blank := fun x hx=>by
    by_cases c:x∈ks
    · obtain ⟨k,r⟩:=h.way x c
      have e:=h.sol hs hall x k _ r
      cases z:E x with
      | num n=>rw [z] at e;exact .inl (by rw [e];rfl)
      | name n=>rw [z] at e;exact .inl (by rw [e];rfl)
      | thing v qs=>exact .inr ⟨E x,h.inU x c,by rw [z];rfl,e⟩
      | blank y =>
        rw [z] at e r
        have hy:y∉ks:=h.none'.mpr r.end'
        refine .inl ?_
        rw [e]
        show (fsub f y).nodes=1
        rw [ends_own hs hy]
        rfl
    · exact .inl (by rw [ends_own hs c];rfl)
structure Alk (g:Ln) (f:Fl) (fs:List Lf) (ns:List Nat):Prop where
  rise:f.Pairwise fun p q=>p.1.cps.toList<q.1.cps.toList
  own:∀ p∈f,p.2≠.blank p.1
  keys:∀ p∈f,p.1∈g.1.bl\/p.1∈g.2.bl
  clean:∀ p∈f,∀ x∈p.2.bl,(x∈g.1.bl\/x∈g.2.bl)/\x∉f.map (·.1)
  same:g.1.fill f=g.2.fill f
  best:∀ φ,Sol φ g->∀ x,(fsub f x).sub φ=φ x
  nums:ns.length=f.length/\∀ i (h:i<f.length) (h':i<ns.length),∃ z,fs[ns[i]]?=some z/\z.1.1=.blank f[i].1/\z.1.2.fill f=f[i].2
  cov:Cov (fsub f) (parts2 g)
  val:∀ p∈f,∃ e∈parts2 g,p.2=e.sub (fsub f)/\∀ y,e=.blank y->fsub f y=.blank y
theorem nrm_fsub {f:Fl}{ss:List Str}(hp:ss.Perm (f.map (·.1))):fsub (nrm f ss)=fsub f:=by
  funext x
  unfold fsub
  by_cases c:x∈ss
  · exact look_nrm c
  · rw [look_nrm_out c,look_out fun z=>c (hp.mem_iff.mpr z)]
theorem alk_of {g:Ln}{fs:List Lf}{on:On}{ks:List Str}{E:Str->Tm}{num:Str->Nat}{f:Fl}{ss:List Str}(hst:Rst g (parts2 g) fs on) (hU:UInv g (nxOf fs on) []) (he:EndsOk g (nxOf fs on) ks E)
    (hnum:∀ x∈ks,∃ z,fs[num x]?=some z/\z.1=(.blank x,E x)) (hs:Stl (endsL ks E) f) (hall:∀ x∈ks,x∈f.map (·.1)) (hp:ss.Perm (f.map (·.1))) (hr:ss.Pairwise fun a b=>a.cps.toList<b.cps.toList) :
    Alk g (nrm f ss) fs ((nrm f ss).map fun p=>num p.1):=by
  have hfs:=nrm_fsub hp
  have hin:∀ p∈nrm f ss,p.1∈ks/\p.2=(E p.1).sub (fsub f):=fun p h=>by
    obtain ⟨h1,h2,h3⟩:=nrm_mem h
    obtain ⟨e,h4,h5,h6,_⟩:=hs.inv.2 _ (look_mem h2)
    simp only at h4 h5
    rw [look_endsL] at h4
    split at h4
    · rename_i c
      cases h4
      exact ⟨c,by rw [h5,fill_sub]⟩
    · cases h4
  have sol:=he.sol hs hall
  have keysN:∀ x,x∈(nrm f ss).map (·.1)->x∈ks:=fun x hx=>by
    obtain ⟨p,hp',rfl⟩:=List.mem_map.mp hx
    exact (hin p hp').1
  refine ⟨nrm_rise hr,fun p h=>(nrm_mem h).2.2,fun p h=>((he.dom _).mp (hin p h).1).1,fun p h x hx=>?_,?_,fun φ hφ x=>?_,⟨by simp,fun i h h'=>?_⟩,by rw [hfs];exact he.cov hs hall,fun p h=>⟨E p.1,he.inU _ (hin p h).1,by rw [hfs];exact (hin p h).2,fun y hy=>?_⟩⟩
  · obtain ⟨h1,h2,_⟩:=nrm_mem h
    obtain ⟨c1,q,hq,c2⟩:=hs.clean _ (look_mem h2) x hx
    obtain ⟨y,hy,rfl⟩:=List.mem_map.mp hq
    refine ⟨bl_parts2 (he.inU y hy) c2,fun z=>?_⟩
    rw [look_endsL,if_pos (keysN x z)] at c1
    cases c1
  · rw [fill_sub,fill_sub,hfs]
    exact hU.both sol
  · rw [hfs]
    refine hs.best (fun y e hy=>?_) x
    rw [look_endsL] at hy
    split at hy
    · rename_i c
      cases hy
      obtain ⟨z,hz,ez⟩:=hnum y c
      have:=snd_sol hφ fs [] hst.snd (fun _ h=>by cases h) z (List.mem_of_getElem? hz)
      unfold Sol at this
      rw [ez] at this
      exact this
    · cases hy
  · obtain ⟨h1,h2⟩:=hin _ (List.getElem_mem h)
    obtain ⟨z,hz,ez⟩:=hnum _ h1
    refine ⟨z,by rw [List.getElem_map];exact hz,by rw [ez],?_⟩
    rw [ez,fill_sub,hfs]
    exact h2.symm
  · obtain ⟨k,r⟩:=he.way _ (hin p h).1
    rw [hy] at r
    rw [hfs]
    exact ends_own hs (he.none'.mpr r.end')
theorem ring_of_words {g:Ln}{nx:Nx}{ks:List Str}{E:Str->Tm}(he:EndsOk g nx ks E) {ws:List Str}(hne:ws≠[]) (h:∀ i (h:i<ws.length),∃ e,look (endsL ks E) ws[i]=some e/\ws[(i+1) % ws.length]'(Nat.mod_lt _ (by omega))∈e.bl/\look (endsL ks E) (ws[(i+1) % ws.length]'(Nat.mod_lt _ (by omega)))≠none) :
    RingOk (ws.map fun x=>(.blank x,E x)):=by
  have hE:∀ i (h':i<ws.length),ws[(i+1) % ws.length]'(Nat.mod_lt _ (by omega))∈(E ws[i]).bl/\ws[i]∈ks/\ws[(i+1) % ws.length]'(Nat.mod_lt _ (by omega))∈ks:=fun i h'=>by
    obtain ⟨e,h1,h2,h3⟩:=h i h'
    rw [look_endsL] at h1 h3
    split at h1
    · rename_i c
      cases h1
      refine ⟨h2,c,?_⟩
      by_cases c2:ws[(i+1) % ws.length]'(Nat.mod_lt _ (by omega))∈ks
      · exact c2
      · rw [if_neg c2] at h3;exact absurd rfl h3
    · cases h1
  refine ⟨fun p hp=>?_,fun i hi=>?_,?_⟩
  · obtain ⟨x,_,rfl⟩:=List.mem_map.mp hp
    rfl
  · have hi':i<ws.length:=by simpa using hi
    refine ⟨ws[(i+1) % ws.length]'(Nat.mod_lt _ (by omega)),?_,?_⟩
    · simp only [List.getElem_map,zLM]
    · simp only [List.getElem_map]
      exact (hE i hi').1
  · have h0:0<ws.length:=List.length_pos_iff.mpr hne
    obtain ⟨h1,h2,h3⟩:=hE 0 h0
    refine ⟨(.blank ws[0],E ws[0]),List.mem_map.mpr ⟨_,List.getElem_mem h0,rfl⟩,?_⟩
    obtain ⟨k,r⟩:=he.way _ h2
    cases z:E ws[0] with
    | num n=>rw [z] at h1;simp [Tm.bl] at h1
    | name n=>rw [z] at h1;simp [Tm.bl] at h1
    | thing v qs=>rfl
    | blank y =>
      rw [z] at h1 r
      simp only [Tm.bl,List.mem_singleton] at h1
      rw [h1] at h3
      exact absurd r.end' ((he.dom y).mp h3).2
end BF
namespace K08
open PySem L2 BF
section
variable {P:Program}{w:World}{K:PySem.W.Frag}{mg:Str->Option Value}{base:Heap}
def spEbw:Sp:=fun vs H Q _=>∃ (L:Addr) (ls:List V) (fs:List Lf) (d:Addr) (kvs:List (Key×V)) (ks:List Str) (E:Str->Tm),vs=[.ref L,.ref d]/\H L=some (.lst ls)/\LfAt H ls fs/\H d=some (.dK kvs)/\DS kvs ks/\(∀ x∈ks,∃ (n:Nat) (z:Lf),valV kvs (Sum.inr x)=some (.int (n:Nat))/\fs[n]?=some z/\z.1.2=E x)/\ks.length<=1000 /\
  ∀ (d2:Addr) (kv2:List (Key×V)) (H':Hp),Same H H'->H d2=none->H' d2=some (.dK kv2)->KvsAt H' kv2 (endsL ks E)->Q (.ref d2) H'
theorem ok_ends_by_word {f:Addr}{fd:FuncData}(F:Fun K "ends_by_word" "ends_by_word" s_ends_by_word f fd):FnOk P w K mg base CX0 1 f fd ["lines","numbers"] spEbw:=by
  refine F.ok sc_ends_by_word (fun vs H Q E h=>?_) (fun cdv A outer s H vs Q E hr h=>?_)
  · obtain ⟨_,_,_,_,_,_,_,rfl,_⟩:=h
    rfl
  obtain ⟨L,ls,fs,d,kvs,ks,Ef,rfl,hL,hls,hd,hds,hval,hkl,q⟩:=h
  have hun:=hr.un
  have hu:(A.deeper (PyProof.Rows.envOfC "ends_by_word" (defScope s_ends_by_word) s.heap.objs.size f cdv)).units+1<cLine:=by omega
  have hkk:kvs.length=ks.length:=by have:=congrArg List.length hds.keys;simpa using this
  refine ⟨_,(pss_cons (ps_set (i:=2) sc_ends_by_word.nd rfl (Or.inl rfl) pe_dnewK)
      (pss_cons (ps_thaw (ps_for PassesOwn.never rfl (pi_items (pv 1)) (pg_tup rfl (pgs_cons (pg_name (i:=3) sc_ends_by_word.nd rfl (Or.inl rfl)) (pgs_cons (pg_name (i:=4) sc_ends_by_word.nd rfl (Or.inl rfl)) pgs_nil))) (pss_one (ps_dput hu (pv 2) (pv 3) (pe_ix ix_tup (pe_ix ix_list (pv 0) (pv 4) (fun _ _=>rfl)) pe_int (fun _ _=>rfl)) rfl))))
      (pss_one (ps_ret (pv 2))))),?_⟩
  refine fun e fe=>?_
  have s1:=same_new fe (HO.dK [])
  have x1:upd H e (HO.dK []) e=some _:=upd_same
  generalize upd H e (HO.dK [])=H1 at s1 x1 |-
  have hd1:=s1 _ _ hd
  have nde:d≠e:=ne_of_none hd fe
  refine ⟨d,kvs,hd1,_,rfl,d,kvs,rfl,hd1,fun o=>?_⟩
  have kf:∀ b ob,H1 b=some ob->b≠d->upd H1 d (HO.frz o (.dK kvs)) b=some ob:=fun b ob z hb=>by rw [upd_ne hb];exact z
  have xf:upd H1 d (HO.frz o (.dK kvs)) d=some _:=upd_same
  generalize upd H1 d (HO.frz o (.dK kvs))=Hf at kf xf |-
  refine for_items (a:=d) (o:=o) (kvs:=kvs) (fun i σ HX=>∃ (o3 o4:Option V) (kv2:List (Key×V)),σ=[some (.ref L),some (.ref d),some (.ref e),o3,o4]/\(∀ b ob,H b=some ob->b≠d->HX b=some ob)/\HX d=some (.frz o (.dK kvs))/\HX e=some (.dK kv2)/\KvsAt HX kv2 (endsL (ks.take i) Ef)/\kv2.length<=i)
    ⟨none,none,[],rfl,fun b ob z hb=>kf _ _ (s1 _ _ z) hb,xf,kf _ _ x1 nde.symm,.nil,Nat.le_refl _⟩ (fun i σ HX _ ⟨_,_,_,_,_,z,_⟩=>z) ?_ ?_
  · rintro i kv q0 σ HX hkv ⟨o3,o4,kv2,rfl,kX,gd,ge,hk2,hl2⟩ fq0
    obtain ⟨x,hx,ek,ev⟩:=hds.get hkv
    obtain ⟨hi,ex⟩:=List.getElem?_eq_some_iff.mp hx
    obtain ⟨n,z,ev2,hz,ez⟩:=hval x (List.mem_of_getElem? hx)
    rw [ev] at ev2
    obtain ⟨kv1,kvv⟩:=kv
    simp only at ek ev2
    cases ek
    cases ev2
    have t1:=same_new fq0 (HO.tup [kV (Sum.inr x),.int (n:Nat)])
    have z1:upd HX q0 (HO.tup [kV (Sum.inr x),.int (n:Nat)]) q0=some _:=upd_same
    have kT:TSame H HX:=fun b xs z=>kX _ _ z (ne_of z hd (by intro z;cases z))
    obtain ⟨a,u,v,r,hat,ha,hr',hu1,hv1⟩:=lf_get (LfAt.mono kT hls) hz
    refine ⟨q0,_,rfl,SqT.of z1,rfl,_,_,rfl,_,_,rfl,rfl,?_⟩
    generalize upd HX q0 (HO.tup [kV (Sum.inr x),.int (n:Nat)])=HY at t1 z1 |-
    have geY:=t1 _ _ ge
    have hLY:=t1 _ _ (kX _ _ hL (ne_of hL hd (by intro z;cases z)))
    refine ⟨_,rfl,_,rfl,L,_,_,_,rfl,rfl,SqL.of hLY,hat,_,_,_,_,rfl,rfl,SqT.of (t1 _ _ ha),at1',_,rfl,_,rfl,e,_,rfl,DPut.k (k:=Sum.inr x) geY (big (by omega)),?_⟩
    have hnone:valV kv2 (Sum.inr x)=none:=by
      refine (hk2.dof x).1 (look_out ?_)
      intro y
      rw [endsL,List.map_map] at y
      have y':x∈ks.take i:=by simpa [Function.comp_def] using y
      obtain ⟨j,hj,ej⟩:=List.mem_iff_getElem.mp y'
      rw [List.length_take] at hj
      rw [List.getElem_take] at ej
      exact (List.pairwise_iff_getElem.mp hds.nd j i (by omega) hi (by omega)) (ej.trans ex.symm)
    rw [L2.putK_new _ hnone]
    have kE:TSame HY (upd HY e (HO.dK (kv2++[(Sum.inr x,v)]))):=fun b ys y=>by rw [upd_ne (ne_of y geY (by intro z;cases z))];exact y
    have hv':TermAt HY v z.1.2:=hv1.mono (.of t1)
    refine ⟨_,_,_,rfl,fun b ob y hb=>by rw [upd_ne (ne_of_none y fe)];exact t1 _ _ (kX _ _ y hb),by rw [upd_ne nde];exact t1 _ _ gd,upd_same,?_,by simp;omega⟩
    have etk:endsL (ks.take (i+1)) Ef=endsL (ks.take i) Ef++[(x,Ef x)]:=by
      rw [List.take_succ_eq_append_getElem hi,endsL,List.map_append,ex]
      rfl
    rw [etk]
    exact paired_snoc (KvsAt.mono ((TSame.of t1).trans kE) hk2) ⟨rfl,by show TermAt _ v (Ef x);rw [<- ez];exact hv'.mono kE⟩
  · rintro σ HX ⟨o3,o4,kv2,rfl,kX,gd,ge,hk2,hl2⟩
    rw [hkk,List.take_of_length_le (Nat.le_refl _)] at hk2
    refine ⟨o,gd,_,rfl,?_⟩
    have kD:TSame HX (upd HX d (HO.dK kvs)):=fun b ys y=>by rw [upd_ne (ne_of y gd (by intro z;cases z))];exact y
    refine q e kv2 _ (fun b ob y=>?_) fe (by rw [upd_ne nde.symm];exact ge) (KvsAt.mono kD hk2)
    by_cases c:b=d
    · subst c
      rw [upd_same,<- y,hd]
    · rw [upd_ne c];exact kX _ _ y c
def ahead (ends f:Fl) (e:Tm):List Str:=e.firsts.filter fun y=>(look ends y).isSome&&(look f y).isNone
theorem dget_rd {H:Hp}{d:Addr}{kvs:List (Key×V)}{f:Fl}(hr:Rd H d (.dK kvs)) (hk:KvsAt H kvs f) (x:Str):(look f x=none->DGet H d (.str x) none)/\∀ t,look f x=some t->∃ v,DGet H d (.str x) (some v)/\TermAt H v t:=by
  have h0:DGet H d (.str x) (valV kvs (Sum.inr x)):=.inl ⟨kvs,Sum.inr x,hr,rfl,rfl⟩
  refine ⟨fun e=>?_,fun t e=>?_⟩
  · rw [(hk.dof x).1 e] at h0;exact h0
  · obtain ⟨v,e1,e2⟩:=(hk.dof x).2 t e
    rw [e1] at h0
    exact ⟨v,h0,e2⟩
theorem rd_same {H H':Hp}{a:Addr}{u:HO}(s:Same H H') (h:Rd H a u):Rd H' a u:=h.imp (fun e=>s _ _ e) fun ⟨o,e⟩=>⟨o,s _ _ e⟩
def spAhead:Sp:=fun vs H Q _=>∃ (de:Addr) (ke:List (Key×V)) (ends:Fl) (dt:Addr) (kt:List (Key×V)) (f:Fl) (x:Str) (e:Tm),vs=[.ref de,.ref dt,.str x]/\Rd H de (.dK ke)/\KvsAt H ke ends/\Rd H dt (.dK kt)/\KvsAt H kt f/\look ends x=some e/\e.nodes<=900 /\
  ∀ (l:Addr) (H':Hp),Same H H'->H l=none->H' l=some (.lst ((ahead ends f e).map V.str))->Q (.ref l) H'
theorem ok_words_ahead {f0:Addr}{fd:FuncData}(F:Fun K "words_ahead" "words_ahead" s_words_ahead f0 fd) (c_blanks_of:Cal P w K mg base 2 "blanks_of" ["term"] spBlanks):FnOk P w K mg base CX0 3 f0 fd ["ends","terms","word"] spAhead:=by
  refine F.ok sc_words_ahead (fun vs H Q E h=>?_) (fun cdv A outer s H vs Q E hr h=>?_)
  · obtain ⟨_,_,_,_,_,_,_,_,rfl,_⟩:=h
    rfl
  obtain ⟨de,ke,ends,dt,kt,f,x,e,rfl,hde,hke,hdt,hkt,hlk,hen,q⟩:=h
  have hun:=hr.un
  have hu:(A.deeper (PyProof.Rows.envOfC "words_ahead" (defScope s_words_ahead) s.heap.objs.size f0 cdv)).units+1<cLine:=by omega
  refine ⟨_,(pss_one (ps_ret (pe_comp (Nc:=["needed","ends","terms"]) (k:=1) (js:=[0,1]) ⟨rfl,rfl,rfl,rfl,rfl,rfl⟩ (pi_list (pe_cal c_blanks_of (hr.mono (by decide)) (pa_cons (pe_dget hu (pv 0) (pv 2) (fun _ _=>rfl)) pa_nil))) (fun _ _ _ _=>pg_name (i:=0) (show (["needed","ends","terms"]:List Str).Nodup by decide +kernel) rfl (Or.inl rfl)) (fun _ _ _ _=>pts_one (pw_and (pt_cmp (pc_din hu (pv 0) (pv 1))) (pw_and1 (pt_cmp (pc_dnotin hu (pv 0) (pv 2))))).pt) (fun _ _ _ _=>(pv 0))))),?_⟩
  obtain ⟨v,hget,hv⟩:=(dget_rd hde hke x).2 e hlk
  refine ⟨_,rfl,_,rfl,de,v,rfl,hget,v,e,rfl,hv,by omega,fun lb H1 s1 hlb=>⟨lb,rfl,⟨_,SqL.of hlb⟩,fun D fD _ _ _ _=>?_⟩⟩
  refine comp_list (K:=K) (a:=lb) (xs:=e.firsts.map V.str) (fun i σ HX=>∃ (o:Option V),σ=[o,some (.ref de),some (.ref dt)]/\Same H1 HX/\HX D=some (.lst (((e.firsts.take i).filter fun y=>(look ends y).isSome&&(look f y).isNone).map V.str)))
    ⟨none,rfl,same_new fD _,upd_same⟩ (fun i σ HX _ ⟨_,_,sX,_⟩=>sX.seq (SqL.of hlb)) ?_ ?_
  · rintro i y σ HX hy ⟨o,rfl,sX,gD⟩
    have hi:i<e.firsts.length:=by have:=(List.getElem?_eq_some_iff.mp hy).1;simpa using this
    have ey:y=.str e.firsts[i]:=by
      rw [List.getElem?_map,List.getElem?_eq_getElem hi] at hy
      exact (Option.some.inj hy).symm
    subst ey
    have sHX:=s1.trans sX
    have hde':=rd_same sHX hde
    have hdt':=rd_same sHX hdt
    have hke':=hke.mono (.of sHX)
    have hkt':=hkt.mono (.of sHX)
    have etk:e.firsts.take (i+1)=e.firsts.take i++[e.firsts[i]]:=List.take_succ_eq_append_getElem hi
    have hfl:=firsts_len e
    have hbl:=len_bl e
    have hfll:((e.firsts.take i).filter fun y=>(look ends y).isSome&&(look f y).isNone).length<=i:=Nat.le_trans (List.length_filter_le _ _) (by rw [List.length_take];omega)
    have no:((look ends e.firsts[i]).isSome&&(look f e.firsts[i]).isNone)=false->HX D=some (.lst (((e.firsts.take (i+1)).filter fun y=>(look ends y).isSome&&(look f y).isNone).map V.str)):=fun z=>by
      rw [etk,List.filter_append,List.filter_cons,z]
      simpa using gD
    cases hl1:look ends e.firsts[i] with
    | none =>
      exact ⟨_,rfl,_,rfl,de,_,rfl,(dget_rd hde' hke' _).1 hl1,_,rfl,ite_f (by simp) (iteF ⟨_,rfl,sX,no (by rw [hl1];rfl)⟩)⟩
    | some t1 =>
      obtain ⟨v1,hg1,_⟩:=(dget_rd hde' hke' _).2 t1 hl1
      cases hl2:look f e.firsts[i] with
      | some t2 =>
        obtain ⟨v2,hg2,_⟩:=(dget_rd hdt' hkt' _).2 t2 hl2
        exact ⟨_,rfl,_,rfl,de,_,rfl,hg1,_,rfl,ite_t (by simp) ⟨_,rfl,_,rfl,dt,_,rfl,hg2,_,rfl,ite_f (by simp) ⟨_,rfl,sX,no (by rw [hl2];simp)⟩⟩⟩
      | none =>
        refine ⟨_,rfl,_,rfl,de,_,rfl,hg1,_,rfl,ite_t (by simp) ⟨_,rfl,_,rfl,dt,_,rfl,(dget_rd hdt' hkt' _).1 hl2,_,rfl,ite_t (by simp) ⟨_,rfl,_,gD,big (by rw [zLM];omega),?_⟩⟩⟩
        refine ⟨_,rfl,fun b ob z=>by rw [upd_ne (ne_of_none z fD)];exact sX _ _ z,?_⟩
        rw [upd_same,etk,List.filter_append,List.filter_cons,hl1,hl2]
        simp
  · rintro σ HX ⟨o,rfl,sX,gD⟩
    rw [zLM,List.take_of_length_le (Nat.le_refl _)] at gD
    exact q D HX (s1.trans sX) (s1.free fD) gD
end
end K08
namespace K08
open PySem L2 BF
section
variable {P:Program}{w:World}{K:PySem.W.Frag}{mg:Str->Option Value}{base:Heap}
def isRdy (ends f:Fl) (p:Str×Tm):Bool:=(look f p.1).isNone&&(ahead ends f p.2).isEmpty
def readyL (ends f:Fl):List Str:=(ends.filter (isRdy ends f)).map (·.1)
structure EndsAt (H:Hp) (de:Addr) (ke:List (Key×V)) (ends:Fl):Prop where
  at':H de=some (.dK ke)
  kv:KvsAt H ke ends
  nd:(ends.map (·.1)).Nodup
  sz:∀ p∈ends,p.2.nodes<=90
  len:ends.length<=1000
def spReady:Sp:=fun vs H Q _=>∃ (de:Addr) (ke:List (Key×V)) (ends:Fl) (dt:Addr) (kt:List (Key×V)) (f:Fl),vs=[.ref de,.ref dt]/\EndsAt H de ke ends/\H dt=some (.dK kt)/\KvsAt H kt f/\de≠dt /\
  ∀ (l:Addr) (H':Hp),Same H H'->H l=none->H' l=some (.lst ((readyL ends f).map V.str))->Q (.ref l) H'
theorem kvs_get {H:Hp}{kvs:List (Key×V)}{f:Fl}(h:KvsAt H kvs f) {i:Nat}{kv:Key×V}(e:kvs[i]?=some kv):∃ p,f[i]?=some p/\kv.1=Sum.inr p.1/\TermAt H kv.2 p.2:=by
  obtain ⟨p,h1,h2,h3⟩:=pair_get h e
  exact ⟨p,h1,h2,h3⟩
theorem look_at {f:Fl}(hn:(f.map (·.1)).Nodup) {p:Str×Tm}(h:p∈f):look f p.1=some p.2:=by
  induction f with
  | nil=>cases h
  | cons a r ih =>
    rw [List.map_cons,List.nodup_cons] at hn
    rw [look_cons]
    rcases List.mem_cons.mp h with z | z
    · rw [<- z];simp
    · rw [if_neg (fun e=>hn.1 (by rw [e];exact List.mem_map.mpr ⟨_,z,rfl⟩))]
      exact ih hn.2 z
theorem ok_ready_words {f0:Addr}{fd:FuncData}(F:Fun K "ready_words" "ready_words" s_ready_words f0 fd) (c_words_ahead:Cal P w K mg base 3 "words_ahead" ["ends","terms","word"] spAhead):FnOk P w K mg base CX0 4 f0 fd ["ends","terms"] spReady:=by
  refine F.ok sc_ready_words (fun vs H Q E h=>?_) (fun cdv A outer s H vs Q E hr h=>?_)
  · obtain ⟨_,_,_,_,_,_,rfl,_⟩:=h
    rfl
  obtain ⟨de,ke,ends,dt,kt,f,rfl,he,hdt,hkt,nedt,q⟩:=h
  have hun:=hr.un
  have hu:(A.deeper (PyProof.Rows.envOfC "ready_words" (defScope s_ready_words) s.heap.objs.size f0 cdv)).units+1<cLine:=by omega
  have hkl:=he.kv.len
  have hel:=he.len
  refine ⟨_,(pss_one (ps_ret (pe_thaw (pe_comp (Nc:=["word","terms","ends"]) (k:=1) (js:=[1,0]) ⟨rfl,rfl,rfl,rfl,rfl,rfl⟩ (pi_dict (pv 0)) (fun _ _ _ _=>pg_name (i:=0) (show (["word","terms","ends"]:List Str).Nodup by decide +kernel) rfl (Or.inl rfl)) (fun _ _ _ _=>pts_one (pw_and (pt_cmp (pc_dnotin hu (pv 0) (pv 1))) (pw_and1 (pt_not (pt_truth (pe_cal c_words_ahead (hr.mono (by decide)) (pa_cons (pv 2) (pa_cons (pv 1) (pa_cons (pv 0) pa_nil)))) (fun _=>rfl))))).pt) (fun _ _ _ _=>(pv 0)))))),?_⟩
  refine ⟨de,ke,he.at',_,rfl,de,ke,rfl,he.at',fun o D fD _ _ _ _=>?_⟩
  have kf:∀ b ob,H b=some ob->b≠de->upd H de (HO.frz o (.dK ke)) b=some ob:=fun b ob z hb=>by rw [upd_ne hb];exact z
  have xf:upd H de (HO.frz o (.dK ke)) de=some _:=upd_same
  have fD0:H D=none:=by
    cases e:H D with
    | none=>rfl
    | some ob =>
      by_cases c:D=de
      · rw [c,xf] at fD;cases fD
      · rw [kf _ _ e c] at fD;cases fD
  have nDe:D≠de:=fun z=>by rw [z,xf] at fD;cases fD
  have sD:=same_new fD (HO.lst [])
  have xD:upd (upd H de (HO.frz o (.dK ke))) D (HO.lst []) D=some _:=upd_same
  generalize upd (upd H de (HO.frz o (.dK ke))) D (HO.lst [])=HD at sD xD |-
  generalize upd H de (HO.frz o (.dK ke))=Hf at kf xf fD sD
  refine comp_dict (a:=de) (o:=o) (kvs:=ke) (fun i σ HX=>∃ (o1:Option V),σ=[o1,some (.ref dt),some (.ref de)]/\Same Hf HX/\HX D=some (.lst ((((ends.take i).filter (isRdy ends f)).map (·.1)).map V.str)))
    ⟨none,rfl,sD,xD⟩ (fun i σ HX _ ⟨_,_,sX,_⟩=>sX _ _ xf) ?_ ?_
  · rintro i kv σ HX hkv ⟨o1,rfl,sX,gD⟩
    obtain ⟨p,hp,ek,_⟩:=kvs_get he.kv hkv
    obtain ⟨kv1,kvv⟩:=kv
    simp only at ek
    cases ek
    obtain ⟨hi,ep⟩:=List.getElem?_eq_some_iff.mp hp
    have hpm:=List.mem_of_getElem? hp
    have kX:TSame H HX:=fun b xs z=>sX _ _ (kf _ _ z (ne_of z he.at' (by intro z;cases z)))
    have hde':Rd HX de (.dK ke):=.inr ⟨o,sX _ _ xf⟩
    have hdt':Rd HX dt (.dK kt):=.inl (sX _ _ (kf _ _ hdt nedt.symm))
    have hke':=he.kv.mono kX
    have hkt':=hkt.mono kX
    have hlk:=look_at he.nd hpm
    have hsz:=he.sz p hpm
    have etk:ends.take (i+1)=ends.take i++[p]:=by rw [List.take_succ_eq_append_getElem hi,ep]
    have hfl:((ends.take i).filter (isRdy ends f)).length<=i:=Nat.le_trans (List.length_filter_le _ _) (by rw [List.length_take];omega)
    have no:isRdy ends f p=false->∀ HZ:Hp,HZ D=HX D->HZ D=some (.lst ((((ends.take (i+1)).filter (isRdy ends f)).map (·.1)).map V.str)):=fun z HZ e=>by
      rw [etk,List.filter_append,List.filter_cons,z,e]
      simpa using gD
    cases hl2:look f p.1 with
    | some t2 =>
      obtain ⟨v2,hg2,_⟩:=(dget_rd hdt' hkt' _).2 t2 hl2
      exact ⟨_,rfl,_,rfl,dt,_,rfl,hg2,_,rfl,ite_f (by simp) (iteF ⟨_,rfl,sX,no (by unfold isRdy;rw [hl2];rfl) _ rfl⟩)⟩
    | none =>
      refine ⟨_,rfl,_,rfl,dt,_,rfl,(dget_rd hdt' hkt' _).1 hl2,_,rfl,ite_t (by simp) ⟨_,rfl,_,rfl,_,rfl,de,ke,ends,dt,kt,f,p.1,p.2,rfl,hde',hke',hdt',hkt',hlk,by omega,fun l HY sY fl gl=>⟨_,.inl ⟨_,SqL.of gl,rfl⟩,ite2 (fun c=>?_) (fun c=>?_)⟩⟩⟩
      · have hemp:ahead ends f p.2=[]:=by
          cases z:ahead ends f p.2 with
          | nil=>rfl
          | cons a b=>rw [z] at c;simp at c
        have hrd:isRdy ends f p=true:=by unfold isRdy;rw [hl2,hemp];rfl
        have gDY:=sY _ _ gD
        refine ⟨_,rfl,_,gDY,big (by simp only [zLM];omega),?_⟩
        refine ⟨_,rfl,fun b ob z=>by rw [upd_ne (ne_of_none z fD)];exact sY _ _ (sX _ _ z),?_⟩
        rw [upd_same,etk,List.filter_append,List.filter_cons,hrd]
        simp [kV]
      · have hemp:isRdy ends f p=false:=by
          unfold isRdy
          cases z:ahead ends f p.2 with
          | nil=>rw [z] at c;simp at c
          | cons a b=>simp
        exact ⟨_,rfl,sX.trans sY,no hemp HY (by rw [sY _ _ gD,gD])⟩
  · rintro σ HX ⟨o1,rfl,sX,gD⟩
    rw [hkl,List.take_of_length_le (Nat.le_refl _)] at gD
    refine ⟨o,sX _ _ xf,q D _ (fun b ob z=>?_) fD0 (by rw [upd_ne nDe];exact gD)⟩
    by_cases c:b=de
    · subst c
      rw [upd_same,<- z,he.at']
    · rw [upd_ne c];exact sX _ _ (kf _ _ z c)
theorem EndsAt.same {H H':Hp}{de:Addr}{ke:List (Key×V)}{ends:Fl}(s:Same H H') (h:EndsAt H de ke ends):EndsAt H' de ke ends:=⟨s _ _ h.at',h.kv.mono (.of s),h.nd,h.sz,h.len⟩
theorem readyL_mem {ends f:Fl}{x:Str}:x∈readyL ends f↔∃ p∈ends,p.1=x/\look f x=none/\ahead ends f p.2=[]:=by
  unfold readyL
  rw [List.mem_map]
  constructor
  · rintro ⟨p,hp,rfl⟩
    obtain ⟨h1,h2⟩:=List.mem_filter.mp hp
    unfold isRdy at h2
    rw [Bool.and_eq_true] at h2
    exact ⟨p,h1,rfl,Option.isNone_iff_eq_none.mp h2.1,List.isEmpty_iff.mp h2.2⟩
  · rintro ⟨p,hp,rfl,h1,h2⟩
    refine ⟨p,List.mem_filter.mpr ⟨hp,?_⟩,rfl⟩
    unfold isRdy
    rw [h1,h2]
    rfl
theorem ahead_nil {ends f:Fl}{e:Tm}(h:ahead ends f e=[]):∀ y∈e.bl,look ends y≠none->look f y≠none:=fun y hy h1 h2=>by
  have:y∈ahead ends f e:=by
    refine List.mem_filter.mpr ⟨mem_firsts.mpr hy,?_⟩
    rw [h2]
    cases z:look ends y with
    | none=>exact absurd z h1
    | some _=>rfl
  rw [h] at this
  cases this
theorem look_in' {f:Fl}{x:Str}:look f x≠none↔x∈f.map (·.1):=by
  constructor
  · intro h
    cases e:look f x with
    | none=>exact absurd e h
    | some t=>exact List.mem_map.mpr ⟨_,look_mem e,rfl⟩
  · intro h e
    obtain ⟨t,e'⟩:=look_in h
    rw [e] at e'
    cases e'
def spSettled:Sp:=fun vs H Q _=>∃ (de:Addr) (ke:List (Key×V)) (ends:Fl),vs=[.ref de]/\EndsAt H de ke ends /\
  ∀ (dt:Addr) (kt:List (Key×V)) (f:Fl) (H':Hp),Same H H'->H dt=none->H' dt=some (.dK kt)->KvsAt H' kt f->Stl ends f->readyL ends f=[]->Q (.ref dt) H'
theorem ok_settled {f0:Addr}{fd:FuncData}(F:Fun K "settled" "settled" s_settled f0 fd) (c_ready_words:Cal P w K mg base 4 "ready_words" ["ends","terms"] spReady) (c_replaced:Cal P w K mg base 2 "replaced" ["term","terms"] spRep):FnOk P w K mg base CX0 5 f0 fd ["ends"] spSettled:=by
  refine F.ok sc_settled (fun vs H Q E h=>?_) (fun cdv A outer s H vs Q E hr h=>?_)
  · obtain ⟨_,_,_,rfl,_⟩:=h
    rfl
  obtain ⟨de,ke,ends,rfl,he,q⟩:=h
  have hun:=hr.un
  have hu:(A.deeper (PyProof.Rows.envOfC "settled" (defScope s_settled) s.heap.objs.size f0 cdv)).units+1<cLine:=by omega
  have hel:=he.len
  have hfle:∀ f:Fl,Stl ends f->f.length<=ends.length:=fun f hf=>by
    have hi:=hf.inv
    have:=nodup_len hi.1 (m:=ends.map (·.1)) fun x hx=>by
      obtain ⟨p,hp,rfl⟩:=List.mem_map.mp hx
      obtain ⟨e,h1,_⟩:=hi.2 p hp
      exact look_in'.mp (by rw [h1];simp)
    simpa using this
  refine ⟨_,(pss_cons (ps_set (i:=1) sc_settled.nd rfl (Or.inl rfl) pe_dnewK)
      (pss_cons (ps_set (i:=2) sc_settled.nd rfl (Or.inl rfl) (pe_cal c_ready_words (hr.mono (by decide)) (pa_cons (pv 0) (pa_cons (pv 1) pa_nil))))
      (pss_cons (ps_while PassesOwn.never (pt_truth (pv 2) (fun _=>rfl)) (pss_cons (ps_for PassesOwn.never rfl (pi_list (pv 2)) (pg_name (i:=3) sc_settled.nd rfl (Or.inl rfl)) (pss_one (ps_dput hu (pv 1) (pv 3) (pe_cal c_replaced (hr.mono (by decide)) (pa_cons (pe_dget hu (pv 0) (pv 3) (fun _ _=>rfl)) (pa_cons (pv 1) pa_nil))) rfl)))
        (pss_one (ps_set (i:=2) sc_settled.nd rfl (Or.inl rfl) (pe_cal c_ready_words (hr.mono (by decide)) (pa_cons (pv 0) (pa_cons (pv 1) pa_nil)))))))
      (pss_one (ps_ret (pv 1)))))),?_⟩
  refine fun dt fdt=>?_
  have s1:=same_new fdt (HO.dK [])
  have x1:upd H dt (HO.dK []) dt=some _:=upd_same
  generalize upd H dt (HO.dK [])=H1 at s1 x1 |-
  have nde:de≠dt:=ne_of_none he.at' fdt
  refine ⟨_,rfl,_,rfl,de,ke,ends,dt,[],[],rfl,he.same s1,x1,.nil,nde,fun l H2 s2 fl gl=>?_⟩
  refine ⟨fun m σ HA=>∃ (o3:Option V) (lr:Addr) (kt:List (Key×V)) (f:Fl),σ=[some (.ref de),some (.ref dt),some (.ref lr),o3]/\Same H HA/\HA dt=some (.dK kt)/\KvsAt HA kt f/\Stl ends f/\HA lr=some (.lst ((readyL ends f).map V.str))/\ends.length - f.length=m,
    ⟨_,none,l,[],[],rfl,s1.trans s2,s2 _ _ x1,.nil,.nil,gl,rfl⟩,?_⟩
  rintro m σ HA ⟨o3,lr,kt,f,rfl,sA,gdt,hkt,hst,glr,hm⟩
  refine ⟨_,rfl,_,.inl ⟨_,SqL.of glr,rfl⟩,ite2 (fun c=>⟨_,fun _ _ h=>h,?_⟩) (fun c=>?_)⟩
  · have hrne:readyL ends f≠[]:=fun z=>by rw [z] at c;simp at c
    have hrnd:(readyL ends f).Nodup:=by
      unfold readyL
      exact List.Nodup.sublist (List.Sublist.map _ List.filter_sublist) he.nd
    have hrin:∀ x∈readyL ends f,∃ e,look ends x=some e/\e.nodes<=90/\look f x=none/\ahead ends f e=[]:=fun x hx=>by
      obtain ⟨p,hp,rfl,h1,h2⟩:=readyL_mem.mp hx
      exact ⟨p.2,look_at he.nd hp,he.sz p hp,h1,h2⟩
    have hrl:(readyL ends f).length<=ends.length:=by
      unfold readyL
      rw [zLM]
      exact List.length_filter_le _ _
    generalize hrs:readyL ends f=rs at hrne hrnd hrin hrl glr
    refine ⟨_,rfl,lr,rfl,⟨_,SqL.of glr⟩,for_list (K:=K) (a:=lr) (xs:=rs.map V.str) (fun i σ HX=>∃ (o:Option V) (kt':List (Key×V)) (f':Fl),σ=[some (.ref de),some (.ref dt),some (.ref lr),o]/\Same H HX/\HX lr=some (.lst (rs.map V.str))/\HX dt=some (.dK kt')/\KvsAt HX kt' f'/\Stl ends f'/\f'.map (·.1)=f.map (·.1)++rs.take i)
      ⟨_,kt,f,rfl,sA,glr,gdt,hkt,hst,by simp⟩ (fun i σ HX _ ⟨_,_,_,_,_,z,_⟩=>SqL.of z) ?_ ?_⟩
    · rintro i y σ HX hy ⟨o,kt',f',rfl,sX,glX,gdX,hkX,hstX,hkeys⟩
      have hi:i<rs.length:=by have:=(List.getElem?_eq_some_iff.mp hy).1;simpa using this
      have ey:y=.str rs[i]:=by
        rw [List.getElem?_map,List.getElem?_eq_getElem hi] at hy
        exact (Option.some.inj hy).symm
      subst ey
      obtain ⟨e,hle,hen,hlf,hah⟩:=hrin _ (List.getElem_mem hi)
      have heX:=he.same sX
      obtain ⟨v,hv1,hv⟩:=(heX.kv.dof rs[i]).2 e hle
      have hget:DGet HX de (.str rs[i]) (some v):=by
        have:=DGet.k (k:=Sum.inr rs[i]) heX.at'
        rw [hv1] at this
        exact this
      refine ⟨_,rfl,_,rfl,de,v,rfl,hget,_,rfl,v,e,dt,kt',f',rfl,hv,by omega,gdX,hkX.dof,fun v' HY sY hv'=>?_⟩
      have gdY:=sY _ _ gdX
      have hkl:=hkX.len
      have hfl:=hfle f' hstX
      refine ⟨_,rfl,_,rfl,dt,_,rfl,DPut.k (k:=Sum.inr rs[i]) gdY (big (by omega)),?_⟩
      have hnew:rs[i]∉f'.map (·.1):=by
        rw [hkeys]
        intro z
        rcases List.mem_append.mp z with z | z
        · exact look_in'.mpr z hlf
        · obtain ⟨j,hj,ej⟩:=List.mem_iff_getElem.mp z
          rw [List.length_take] at hj
          rw [List.getElem_take] at ej
          exact (List.pairwise_iff_getElem.mp hrnd j i (by omega) hi (by omega)) ej
      have hnone:valV kt' (Sum.inr rs[i])=none:=(hkX.dof rs[i]).1 (look_out hnew)
      rw [L2.putK_new _ hnone]
      have kE:TSame HY (upd HY dt (HO.dK (kt'++[(Sum.inr rs[i],v')]))):=fun b ys y=>by rw [upd_ne (ne_of y gdY (by intro z;cases z))];exact y
      refine ⟨_,_,f'++[(rs[i],e.fill f')],rfl,fun b ob z=>by rw [upd_ne (ne_of_none z fdt)];exact sY _ _ (sX _ _ z),by rw [upd_ne (ne_of (sY _ _ glX) gdY (by intro z;cases z))];exact sY _ _ glX,upd_same,paired_snoc (KvsAt.mono ((TSame.of sY).trans kE) hkX) ⟨rfl,hv'.mono kE⟩,.snoc hstX hle hnew (fun x hx h1=>?_),?_⟩
      · rw [hkeys]
        exact List.mem_append_left _ (look_in'.mp (ahead_nil hah x hx h1))
      · rw [List.map_append,hkeys,List.take_succ_eq_append_getElem hi,List.append_assoc]
        rfl
    · rintro σ HX ⟨o,kt',f',rfl,sX,glX,gdX,hkX,hstX,hkeys⟩
      rw [zLM,List.take_of_length_le (Nat.le_refl _)] at hkeys
      refine ⟨_,rfl,_,rfl,de,ke,ends,dt,kt',f',rfl,he.same sX,gdX,hkX,nde,fun l2 HY sY fl2 gl2=>?_⟩
      have hlen:=congrArg List.length hkeys
      rw [zLA,zLM,zLM] at hlen
      have h1:=hfle f' hstX
      have h2:0<rs.length:=List.length_pos_iff.mpr hrne
      exact ⟨_,by omega,_,l2,kt',f',rfl,sX.trans sY,sY _ _ gdX,hkX.mono (.of sY),hstX,gl2,rfl⟩
  · have e0:readyL ends f=[]:=by
      cases z:readyL ends f with
      | nil=>rfl
      | cons a b=>rw [z] at c;exact absurd rfl c
    exact ⟨_,rfl,q dt kt f HA sA fdt gdt hkt hst e0⟩
end
end K08
namespace K08
open PySem L2 BF
section
variable {P:Program}{w:World}{K:PySem.W.Frag}{mg:Str->Option Value}{base:Heap}
theorem dats_strs {H:Hp}:∀ l:List Str,DatsAt H (l.map V.str) (l.map Dt.str)
  | []=>by simp [DatsAt]
  | x::r=>by
    simp only [List.map_cons,DatsAt]
    exact ⟨_,_,rfl,by simp [DatAt],dats_strs r⟩
theorem cutw_from (xs:List V) (i:Nat) (h:i<=xs.length):cutV xs (some (i:Int)) none=xs.drop i:=by
  unfold cutV
  rw [HT.sIx_none,HT.sIx_nat,Nat.min_eq_left h]
  exact List.take_of_length_le (by rw [List.length_drop];omega)
def RingW (ends:Fl) (ws:List Str):Prop:=ws≠[]/\∀ i (h:i<ws.length),∃ e,look ends ws[i]=some e/\ws[(i+1) % ws.length]'(Nat.mod_lt _ (by omega))∈e.bl/\look ends (ws[(i+1) % ws.length]'(Nat.mod_lt _ (by omega)))≠none
def spRingOf:Sp:=fun vs H Q _=>∃ (de:Addr) (ke:List (Key×V)) (ends:Fl) (dt:Addr) (kt:List (Key×V)) (f:Fl),vs=[.ref de,.ref dt]/\EndsAt H de ke ends/\H dt=some (.dK kt)/\KvsAt H kt f/\de≠dt/\readyL ends f=[]/\(∃ p∈ends,look f p.1=none) /\
  ∀ (l:Addr) (ws:List Str) (H':Hp),Same H H'->H l=none->H' l=some (.lst (ws.map V.str))->RingW ends ws->ws.length<=1000->Q (.ref l) H'
theorem ok_ring_of {f0:Addr}{fd:FuncData}(F:Fun K "ring_of" "ring_of" s_ring_of f0 fd) (c_words_ahead:Cal P w K mg base 3 "words_ahead" ["ends","terms","word"] spAhead):FnOk P w K mg base CX0 4 f0 fd ["ends","terms"] spRingOf:=by
  refine F.ok sc_ring_of (fun vs H Q E h=>?_) (fun cdv A outer s H vs Q E hr h=>?_)
  · obtain ⟨_,_,_,_,_,_,rfl,_⟩:=h
    rfl
  obtain ⟨de,ke,ends,dt,kt,f,rfl,he,hdt,hkt,nedt,hrd,hex,q⟩:=h
  have hun:=hr.un
  have hu:(A.deeper (PyProof.Rows.envOfC "ring_of" (defScope s_ring_of) s.heap.objs.size f0 cdv)).units+1<cLine:=by omega
  have hkl:=he.kv.len
  have hel:=he.len
  have hnext:∀ x,look ends x≠none->look f x=none->∃ e y r,look ends x=some e/\e.nodes<=90/\ahead ends f e=y::r/\y∈e.bl/\look ends y≠none/\look f y=none:=fun x h1 h2=>by
    cases z:look ends x with
    | none=>exact absurd z h1
    | some e =>
      have hm:=look_mem z
      cases ha:ahead ends f e with
      | nil =>
        have:x∈readyL ends f:=readyL_mem.mpr ⟨_,hm,rfl,h2,ha⟩
        rw [hrd] at this
        cases this
      | cons y r =>
        have hy:y∈ahead ends f e:=by rw [ha];simp
        obtain ⟨g1,g2⟩:=List.mem_filter.mp hy
        rw [Bool.and_eq_true] at g2
        exact ⟨e,y,r,rfl,he.sz _ hm,ha,mem_firsts.mp g1,fun y'=>by rw [y'] at g2;simp at g2,Option.isNone_iff_eq_none.mp g2.2⟩
  refine ⟨_,(pss_cons (ps_set (i:=2) sc_ring_of.nd rfl (Or.inl rfl) (pe_ix ix_list (pe_thaw (pe_comp (Nc:=["unsettled","terms"]) (k:=1) (js:=[1]) ⟨rfl,rfl,rfl,rfl,rfl,rfl⟩ (pi_dict (pv 0)) (fun _ _ _ _=>pg_name (i:=0) (show (["unsettled","terms"]:List Str).Nodup by decide +kernel) rfl (Or.inl rfl)) (fun _ _ _ _=>pts_one (pt_cmp (pc_dnotin hu (pv 0) (pv 1)))) (fun _ _ _ _=>(pv 0)))) pe_int (fun _ _=>rfl)))
      (pss_cons (ps_set (i:=3) sc_ring_of.nd rfl (Or.inl rfl) (pe_lst pa_nil))
      (pss_cons (ps_while PassesOwn.never (pt_cmpR op_notInD (pv 2) (pv 3) (by with_unfolding_all rfl)) (pss_cons (ps_expr (pe_bm PySem.F.plainAttrs_list PySem.F.slot_list_append PySem.F.type_list_append mt_append (pv 3) (pa_cons (pv 2) pa_nil)))
        (pss_one (ps_set (i:=2) sc_ring_of.nd rfl (Or.inl rfl) (pe_ix ix_list (pe_cal c_words_ahead (hr.mono (by decide)) (pa_cons (pv 0) (pa_cons (pv 1) (pa_cons (pv 2) pa_nil)))) pe_int (fun _ _=>rfl))))))
      (pss_one (ps_ret (pe_slice sl_list (pv 3) (po_some (pe_bm PySem.F.plainAttrs_list PySem.F.slot_list_index PySem.F.type_list_index mt_index (pv 3) (pa_cons (pv 2) pa_nil))) po_none)))))),?_⟩
  refine ⟨de,ke,he.at',_,rfl,de,ke,rfl,he.at',fun o D fD _ _ _ _=>?_⟩
  have kf:∀ b ob,H b=some ob->b≠de->upd H de (HO.frz o (.dK ke)) b=some ob:=fun b ob z hb=>by rw [upd_ne hb];exact z
  have xf:upd H de (HO.frz o (.dK ke)) de=some _:=upd_same
  have fD0:H D=none:=by
    cases e:H D with
    | none=>rfl
    | some ob =>
      by_cases c:D=de
      · rw [c,xf] at fD;cases fD
      · rw [kf _ _ e c] at fD;cases fD
  have nDe:D≠de:=fun z=>by rw [z,xf] at fD;cases fD
  have sD:=same_new fD (HO.lst [])
  have xD:upd (upd H de (HO.frz o (.dK ke))) D (HO.lst []) D=some _:=upd_same
  generalize upd (upd H de (HO.frz o (.dK ke))) D (HO.lst [])=HD at sD xD |-
  generalize upd H de (HO.frz o (.dK ke))=Hf at kf xf fD sD
  refine comp_dict (a:=de) (o:=o) (kvs:=ke) (fun i σ HX=>∃ (o1:Option V),σ=[o1,some (.ref dt)]/\Same Hf HX/\HX D=some (.lst ((((ends.take i).filter fun p=>(look f p.1).isNone).map (·.1)).map V.str)))
    ⟨none,rfl,sD,xD⟩ (fun i σ HX _ ⟨_,_,sX,_⟩=>sX _ _ xf) ?_ ?_
  · rintro i kv σ HX hkv ⟨o1,rfl,sX,gD⟩
    obtain ⟨p,hp,ek,_⟩:=kvs_get he.kv hkv
    obtain ⟨kv1,kvv⟩:=kv
    simp only at ek
    cases ek
    obtain ⟨hi,ep⟩:=List.getElem?_eq_some_iff.mp hp
    have kX:TSame H HX:=fun b xs z=>sX _ _ (kf _ _ z (ne_of z he.at' (by intro z;cases z)))
    have hdt':Rd HX dt (.dK kt):=.inl (sX _ _ (kf _ _ hdt nedt.symm))
    have hkt':=hkt.mono kX
    have etk:ends.take (i+1)=ends.take i++[p]:=by rw [List.take_succ_eq_append_getElem hi,ep]
    have hfl:((ends.take i).filter fun p=>(look f p.1).isNone).length<=i:=Nat.le_trans (List.length_filter_le _ _) (by rw [List.length_take];omega)
    cases hl2:look f p.1 with
    | some t2 =>
      obtain ⟨v2,hg2,_⟩:=(dget_rd hdt' hkt' _).2 t2 hl2
      refine ⟨_,rfl,_,rfl,dt,_,rfl,hg2,_,rfl,ite_f (by simp) ⟨_,rfl,sX,?_⟩⟩
      rw [etk,List.filter_append,List.filter_cons,hl2]
      simpa using gD
    | none =>
      refine ⟨_,rfl,_,rfl,dt,_,rfl,(dget_rd hdt' hkt' _).1 hl2,_,rfl,ite_t (by simp) ⟨_,rfl,_,gD,big (by simp only [zLM];omega),?_⟩⟩
      refine ⟨_,rfl,fun b ob z=>by rw [upd_ne (ne_of_none z fD)];exact sX _ _ z,?_⟩
      rw [upd_same,etk,List.filter_append,List.filter_cons,hl2]
      simp [kV]
  rintro σ HX ⟨o1,rfl,sX,gD⟩
  rw [hkl,List.take_of_length_le (Nat.le_refl _)] at gD
  refine ⟨o,sX _ _ xf,?_⟩
  have gD2:upd HX de (HO.dK ke) D=some (.lst (((ends.filter fun p=>(look f p.1).isNone).map (·.1)).map V.str)):=by rw [upd_ne nDe];exact gD
  have s2:Same H (upd HX de (HO.dK ke)):=fun b ob z=>by
    by_cases c:b=de
    · subst c
      rw [upd_same,<- z,he.at']
    · rw [upd_ne c];exact sX _ _ (kf _ _ z c)
  generalize upd HX de (HO.dK ke)=H2 at gD2 s2 |-
  obtain ⟨x0,r0,ex0,hx1,hx2⟩:∃ x0 r0,((ends.filter fun p=>(look f p.1).isNone).map (·.1)).map V.str=V.str x0::r0/\look ends x0≠none/\look f x0=none:=by
    obtain ⟨p,hp,hpn⟩:=hex
    have hm:p∈ends.filter fun p=>(look f p.1).isNone:=List.mem_filter.mpr ⟨hp,by rw [hpn];rfl⟩
    cases hz:ends.filter fun p=>(look f p.1).isNone with
    | nil=>rw [hz] at hm;cases hm
    | cons a b =>
      have ha:a∈ends.filter fun p=>(look f p.1).isNone:=by rw [hz];simp
      obtain ⟨g1,g2⟩:=List.mem_filter.mp ha
      exact ⟨a.1,_,rfl,by rw [look_at he.nd g1];simp,Option.isNone_iff_eq_none.mp g2⟩
  rw [ex0] at gD2
  refine ⟨D,_,_,_,rfl,rfl,SqL.of gD2,at0',?_⟩
  refine ⟨(by show 0<=sizeLine;decide),fun lw flw=>?_⟩
  have t3:=same_new flw (HO.lst [])
  have x3:upd H2 lw (HO.lst []) lw=some _:=upd_same
  generalize upd H2 lw (HO.lst [])=H3 at t3 x3 |-
  have s3:=s2.trans t3
  have flw0:H lw=none:=s2.free flw
  refine ⟨fun m σ HA=>∃ (x:Str) (ws:List Str),σ=[some (.ref de),some (.ref dt),some (.str x),some (.ref lw)]/\Same H HA/\HA lw=some (.lst (ws.map V.str))/\ws.Nodup/\(∀ y∈ws++[x],look ends y≠none/\look f y=none)/\(∀ i (h:i<ws.length),∃ e,look ends ws[i]=some e/\(ws++[x])[i+1]'(by simp;omega)∈e.bl)/\ends.length - ws.length=m,
    ⟨_,x0,[],rfl,s3,x3,.nil,fun y hy=>(by simp at hy;subst hy;exact ⟨hx1,hx2⟩),fun i h=>(by simp at h),rfl⟩,?_⟩
  rintro m σ HA ⟨x,ws,rfl,sA,gw,hnd,hall,hch,hm⟩
  have hwle:∀ l:List Str,l.Nodup->(∀ y∈l,look ends y≠none)->l.length<=ends.length:=fun l h1 h2=>by
    have:=nodup_len h1 (m:=ends.map (·.1)) fun y hy=>look_in'.mp (h2 y hy)
    simpa using this
  have hwl:=hwle ws hnd fun y hy=>(hall y (List.mem_append_left _ hy)).1
  have hdat:∀ HX:Hp,DatsAt HX (ws.map V.str) (ws.map Dt.str):=fun HX=>dats_strs ws
  refine ⟨_,rfl,_,rfl,.str x,lw,_,_,by simp [DatAt],rfl,gw,hdat HA,fun e hE=>?_,fun bb hbb=>⟨_,rfl,ite2 (fun c=>⟨_,fun _ _ h=>h,?_⟩) (fun c=>?_)⟩⟩
  · obtain ⟨y,_,rfl⟩:=List.mem_map.mp hE
    show (A.deeper _).units+1+0<cLine
    omega
  · have hxn:x∉ws:=fun z=>hbb.mp c (List.mem_map.mpr ⟨x,z,rfl⟩)
    obtain ⟨hxe,hxf⟩:=hall x (List.mem_append_right _ (List.mem_singleton.mpr rfl))
    obtain ⟨e,y,r,hle,hen,hah,hyb,hye,hyf⟩:=hnext x hxe hxf
    have hnd2:(ws++[x]).Nodup:=by
      rw [List.nodup_append]
      refine ⟨hnd,by simp,fun a ha b hb=>?_⟩
      rw [List.mem_singleton.mp hb]
      rintro rfl
      exact hxn ha
    have hw2:=hwle _ hnd2 fun z hz=>(hall z hz).1
    rw [zLA] at hw2
    simp only [zLC,zLN] at hw2
    refine ⟨_,rfl,.inl ⟨rfl,_,SqL.of gw⟩,_,rfl,lw,_,_,rfl,rfl,gw,big (by rw [zLM];omega),?_⟩
    have kB:TSame HA (upd HA lw (HO.lst (ws.map V.str++[.str x]))):=.lst gw
    have gB:upd HA lw (HO.lst (ws.map V.str++[.str x])) lw=some _:=upd_same
    have sB:Same H (upd HA lw (HO.lst (ws.map V.str++[.str x]))):=fun b ob z=>by rw [upd_ne (ne_of_none z flw0)];exact sA _ _ z
    generalize upd HA lw (HO.lst (ws.map V.str++[.str x]))=HB at kB gB sB |-
    have heB:=he.same sB
    refine ⟨_,rfl,_,rfl,_,rfl,de,ke,ends,dt,kt,f,x,e,rfl,.inl heB.at',heB.kv,.inl (sB _ _ hdt),hkt.mono (.of sB),hle,by omega,fun l HC sC fl gl=>?_⟩
    rw [hah] at gl
    refine ⟨l,_,_,.str y,rfl,rfl,SqL.of gl,at0',?_⟩
    refine ⟨ends.length - (ws++[x]).length,by rw [zLA];simp only [zLC,zLN];omega,y,ws++[x],rfl,sB.trans sC,by rw [sC _ _ gB,List.map_append];rfl,hnd2,fun z hz=>?_,fun i h=>?_,rfl⟩
    · rcases List.mem_append.mp hz with z' | z'
      · exact hall z z'
      · rw [List.mem_singleton.mp z'];exact ⟨hye,hyf⟩
    · by_cases c2:i<ws.length
      · obtain ⟨e1,h1,h2⟩:=hch i c2
        refine ⟨e1,by rw [List.getElem_append_left c2];exact h1,?_⟩
        rw [List.getElem_append_left (by simp;omega)]
        exact h2
      · have ei:i=ws.length:=by simp at h;omega
        subst ei
        refine ⟨e,by rw [List.getElem_append_right (Nat.le_refl _)];simpa using hle,?_⟩
        rw [List.getElem_append_right (by simp)]
        simpa using hyb
  · have hxin:x∈ws:=by
      have:¬ ¬ (Dt.str x∈ws.map Dt.str):=fun z=>c (hbb.mpr z)
      obtain ⟨y,hy,e⟩:=List.mem_map.mp (Classical.not_not.mp this)
      cases e
      exact hy
    obtain ⟨j,hj,ej,hfirst⟩:∃ (j:Nat) (h:j<(ws.map Dt.str).length),(ws.map Dt.str)[j]=Dt.str x/\∀ i (h':i<(ws.map Dt.str).length),i<j->(ws.map Dt.str)[i]≠Dt.str x:=by
      obtain ⟨j,hj,ej⟩:=List.mem_iff_getElem.mp hxin
      refine ⟨j,by simpa using hj,by simp [ej],fun i h' hij z=>?_⟩
      have h2:i<ws.length:=by simpa using h'
      have h3:ws[i]=x:=by simpa using z
      exact (List.pairwise_iff_getElem.mp hnd i j h2 hj hij) (h3.trans ej.symm)
    refine ⟨_,rfl,_,rfl,.inl ⟨rfl,_,SqL.of gw⟩,_,rfl,lw,.str x,_,_,.str x,j,rfl,rfl,gw,hdat HA,by simp [DatAt],fun e hE=>?_,⟨hj,ej,hfirst⟩,_,rfl,lw,_,rfl,SqL.of gw,fun l fl=>?_⟩
    · obtain ⟨y,_,rfl⟩:=List.mem_map.mp hE
      show (A.deeper _).units+2+0<cLine
      omega
    have hj':j<ws.length:=by simpa using hj
    have ej':ws[j]=x:=by simpa using ej
    rw [cutw_from _ _ (by rw [zLM];omega),<- List.map_drop]
    have t9:=same_new fl (HO.lst ((ws.drop j).map V.str))
    refine q l (ws.drop j) _ (sA.trans t9) (sA.free fl) upd_same ⟨fun z=>?_,fun i h=>?_⟩ (by rw [List.length_drop];omega)
    · have:=congrArg List.length z
      rw [List.length_drop] at this
      simp at this
      omega
    · have hil:j+i<ws.length:=by rw [List.length_drop] at h;omega
      obtain ⟨e,h1,h2⟩:=hch (j+i) hil
      have hnx:(ws.drop j)[(i+1) % (ws.drop j).length]'(Nat.mod_lt _ (by omega))=(ws++[x])[j+i+1]'(by simp;omega):=by
        by_cases c3:i+1<(ws.drop j).length
        · have em:(i+1) % (ws.drop j).length=i+1:=Nat.mod_eq_of_lt c3
          rw [List.length_drop] at c3
          simp only [em,List.getElem_drop]
          rw [List.getElem_append_left (by omega)]
          rfl
        · have el:i+1=(ws.drop j).length:=by omega
          have em:(i+1) % (ws.drop j).length=0:=by rw [el,Nat.mod_self]
          rw [List.length_drop] at el
          simp only [em,List.getElem_drop]
          rw [List.getElem_append_right (by omega)]
          simp only [Nat.add_zero,ej']
          simp
      refine ⟨e,by rw [List.getElem_drop];exact h1,by rw [hnx];exact h2,?_⟩
      rw [hnx]
      exact (hall _ (List.getElem_mem _)).1
end
end K08
namespace K08
open PySem L2 BF
section
variable {P:Program}{w:World}{K:PySem.W.Frag}{mg:Str->Option Value}{base:Heap}
def spLetters:Sp:=fun vs H Q _=>∃ x:Str,vs=[.str x]/\Wd x/\Q (.bl true) H
theorem ok_letters {f:Addr}{fd:FuncData}(F:Fun K "_law_letters" "_law_letters" s_law_letters f fd) (T:Bi mg):FnOk P w K mg base CX0 1 f fd ["_law_found"] spLetters:=by
  refine F.ok sc_law_letters (fun vs H Q E h=>?_) (fun cdv A outer s H vs Q E hr h=>?_)
  · obtain ⟨i,rfl,_⟩:=h
    rfl
  obtain ⟨x,rfl,hx,q⟩:=h
  refine ⟨_,(pss_cons (ps_if (pw_or (pt_not (pt_val (pe_blt call_isi T.b_isinstance bt_isinstance (pa_cons (pv 0) (pa_cons (pe_tyn T.b_str bt_str) pa_nil))))) (pw_or1 (pt_cmpR op_eq (pv 0) pe_str (nomark _)))).pt (pss_one (ps_ret pe_bl)) pss_nil)
      (pss_cons (ps_for PassesOwn.never rfl (pi_str (pv 0)) (pg_name (i:=1) sc_law_letters.nd rfl (Or.inl rfl)) (pss_one (ps_if (pt_cmpR op_notin_str (pv 1) pe_str (by with_unfolding_all rfl)) (pss_one (ps_ret pe_bl)) pss_nil)))
      (pss_one (ps_ret pe_bl)))),?_⟩
  refine ⟨_,rfl,_,_,_,_,rfl,.str _,.ss,_,rfl,iteF ⟨_,rfl,rfl,_,rfl,ite_f (decide_eq_false fun z=>hx.ne (V.str.inj z)) ?_⟩⟩
  refine ⟨_,rfl,x,rfl,for_str (fun i σ H2=>H2=H/\∃ o,σ=[some (.str x),o]) ⟨rfl,_,rfl⟩ ?_ ?_⟩
  · rintro i c σ H2 hi ⟨rfl,o,rfl⟩
    have hc:=hx.2.2 c (List.mem_of_getElem? hi)
    refine ⟨_,rfl,_,_,rfl,rfl,_,rfl,ite_f (in_alpha hc.1 hc.2) ?_⟩
    exact ⟨rfl,_,rfl⟩
  · rintro σ H2 ⟨rfl,o,rfl⟩
    exact q
def spWhole:Sp:=fun vs H Q _=>∃ n:Int,vs=[.int n]/\Q (.bl true) H
theorem ok_whole {f:Addr}{fd:FuncData}(F:Fun K "_law_whole" "_law_whole" s_law_whole f fd) (T:Bi mg):FnOk P w K mg base CX0 1 f fd ["_law_found"] spWhole:=by
  refine F.ok sc_law_whole (fun vs H Q E h=>?_) (fun cdv A outer s H vs Q E hr h=>?_)
  · obtain ⟨i,rfl,_⟩:=h
    rfl
  obtain ⟨n,rfl,q⟩:=h
  refine ⟨_,(pss_one (ps_ret (pe_and (pe_blt call_isi T.b_isinstance bt_isinstance (pa_cons (pv 0) (pa_cons (pe_tyn T.b_int bt_int) pa_nil))) (pe_one (pe_not (pe_blt call_isi T.b_isinstance bt_isinstance (pa_cons (pv 0) (pa_cons (pe_tyn T.b_bool bt_bool) pa_nil)))))))),?_⟩
  refine ⟨_,rfl,_,_,_,_,rfl,.int _,.ii,_,rfl,iteT ⟨_,rfl,_,_,_,_,rfl,.int _,.ib,_,rfl,?_⟩⟩
  exact q
def spSmall:Sp:=fun vs H Q _=>∃ (v:V) (t:Tm),vs=[v]/\TermAt H v t/\t.Ok/\(∀ x ps,t≠.thing x ps)/\Q (.bl true) H
theorem ok_small {f:Addr}{fd:FuncData}(F:Fun K "_law_small" "_law_small" s_law_small f fd) (T:Bi mg) (c__law_whole:Cal P w K mg base 1 "_law_whole" ["_law_found"] spWhole)
    (c__law_letters:Cal P w K mg base 1 "_law_letters" ["_law_found"] spLetters):FnOk P w K mg base CX0 2 f fd ["_law_part"] spSmall:=by
  refine F.ok sc_law_small (fun vs H Q E h=>?_) (fun cdv A outer s H vs Q E hr h=>?_)
  · obtain ⟨v,t,rfl,_⟩:=h
    rfl
  obtain ⟨v,t,rfl,ht,hok,hno,q⟩:=h
  refine ⟨_,(pss_cons (ps_if (pw_or (pt_cmpR op_ne (pe_blt call_len_seq T.b_len bt_len (pa_cons (pv 0) pa_nil)) pe_int (nomark _)) (pw_or1 (pt_not (pt_val (pe_blt call_isi T.b_isinstance bt_isinstance (pa_cons (pe_ix ix_tup (pv 0) pe_int (fun _ _=>rfl)) (pa_cons (pe_tyn T.b_str bt_str) pa_nil))))))).pt (pss_one (ps_ret pe_bl)) pss_nil)
      (pss_cons (ps_if (pt_cmpR op_eq (pe_ix ix_tup (pv 0) pe_int (fun _ _=>rfl)) pe_str (nomark _)) (pss_one (ps_ret (pe_cal c__law_whole (hr.mono (by decide)) (pa_cons (pe_ix ix_tup (pv 0) pe_int (fun _ _=>rfl)) pa_nil)))) pss_nil)
      (pss_one (ps_ret (pe_and (pe_or (pe_cmpR op_eq (pe_ix ix_tup (pv 0) pe_int (fun _ _=>rfl)) pe_str (nomark _)) (pe_one (pe_cmpR op_eq (pe_ix ix_tup (pv 0) pe_int (fun _ _=>rfl)) pe_str (nomark _)))) (pe_one (pe_cal c__law_letters (hr.mono (by decide)) (pa_cons (pe_ix ix_tup (pv 0) pe_int (fun _ _=>rfl)) pa_nil)))))))),?_⟩
  cases t with
  | thing x ps=>exact absurd rfl (hno x ps)
  | num n =>
    obtain ⟨a,rfl,h1⟩:=termAt_num.mp ht
    refine ⟨_,rfl,a,_,rfl,.inr (SqT.of h1),rfl,_,rfl,iteF ⟨_,rfl,_,_,_,_,rfl,rfl,SqT.of h1,rfl,_,_,_,_,rfl,.str _,.ss,_,rfl,iteF ?_⟩⟩
    refine ⟨_,rfl,_,_,_,_,rfl,rfl,SqT.of h1,rfl,rfl,_,rfl,ite_t (by decide +kernel) ?_⟩
    exact ⟨_,rfl,_,_,_,_,rfl,rfl,SqT.of h1,rfl,n,rfl,q⟩
  | name x =>
    obtain ⟨a,rfl,h1⟩:=termAt_name.mp ht
    refine ⟨_,rfl,a,_,rfl,.inr (SqT.of h1),rfl,_,rfl,iteF ⟨_,rfl,_,_,_,_,rfl,rfl,SqT.of h1,rfl,_,_,_,_,rfl,.str _,.ss,_,rfl,iteF ?_⟩⟩
    refine ⟨_,rfl,_,_,_,_,rfl,rfl,SqT.of h1,rfl,rfl,_,rfl,ite_f (by decide +kernel) ?_⟩
    refine ⟨_,rfl,_,_,_,_,rfl,rfl,SqT.of h1,rfl,rfl,_,rfl,ite_t (by decide +kernel) ⟨_,rfl,iteT ?_⟩⟩
    exact ⟨_,rfl,_,_,_,_,rfl,rfl,SqT.of h1,rfl,x,rfl,hok,q⟩
  | blank x =>
    obtain ⟨a,rfl,h1⟩:=termAt_blank.mp ht
    refine ⟨_,rfl,a,_,rfl,.inr (SqT.of h1),rfl,_,rfl,iteF ⟨_,rfl,_,_,_,_,rfl,rfl,SqT.of h1,rfl,_,_,_,_,rfl,.str _,.ss,_,rfl,iteF ?_⟩⟩
    refine ⟨_,rfl,_,_,_,_,rfl,rfl,SqT.of h1,rfl,rfl,_,rfl,ite_f (by decide +kernel) ?_⟩
    refine ⟨_,rfl,_,_,_,_,rfl,rfl,SqT.of h1,rfl,rfl,_,rfl,ite_f (by decide +kernel) ⟨_,rfl,_,_,_,_,rfl,rfl,SqT.of h1,rfl,rfl,_,rfl,ite_t (by decide +kernel) ?_⟩⟩
    exact ⟨_,rfl,_,_,_,_,rfl,rfl,SqT.of h1,rfl,x,rfl,hok,q⟩
def spIsTerm:Sp:=fun vs H Q _=>∃ (v:V) (t:Tm),vs=[v]/\TermAt H v t/\t.Ok/\t.nodes<=5000000/\∀ H',Same H H'->Q (.bl true) H'
theorem ok_is_term {f:Addr}{fd:FuncData}(F:Fun K "_law_is_term" "_law_is_term" s_law_is_term f fd) (T:Bi mg) (c__law_small:Cal P w K mg base 2 "_law_small" ["_law_part"] spSmall)
    (c__law_letters:Cal P w K mg base 1 "_law_letters" ["_law_found"] spLetters):FnOk P w K mg base CX0 3 f fd ["_law_found"] spIsTerm:=by
  refine F.ok sc_law_is_term (fun vs H Q E h=>?_) (fun cdv A outer s H vs Q E hr h=>?_)
  · obtain ⟨v,t,rfl,_⟩:=h
    rfl
  obtain ⟨v,t,rfl,ht,hok,hn,q⟩:=h
  refine ⟨_,(pss_cons (ps_set (i:=1) sc_law_is_term.nd rfl (Or.inl rfl) (pe_lst (pa_cons (pv 0) pa_nil)))
      (pss_cons (ps_while PassesOwn.never (pt_cmpR (op_neNil hr.units0) (pv 1) (pe_lst pa_nil) (nomark _)) (pss_cons (ps_set (i:=2) sc_law_is_term.nd rfl (Or.inl rfl) (pe_bm0 PySem.F.plainAttrs_list PySem.F.slot_list_pop PySem.F.type_list_pop mt_pop (pv 1)))
        (pss_cons (ps_if (pt_not (pt_val (pe_blt call_isi T.b_isinstance bt_isinstance (pa_cons (pv 2) (pa_cons (pe_tyn T.b_tuple bt_tuple) pa_nil))))) (pss_one (ps_ret pe_bl)) pss_nil)
        (pss_one (ps_if (pt_cmpR op_eq (pe_blt call_len_seq T.b_len bt_len (pa_cons (pv 2) pa_nil)) pe_int (nomark _)) (pss_cons (ps_if (pw_or (pt_not (pt_val (pe_blt call_isi T.b_isinstance bt_isinstance (pa_cons (pe_ix ix_tup (pv 2) pe_int (fun _ _=>rfl)) (pa_cons (pe_tyn T.b_str bt_str) pa_nil))))) (pw_or (pt_cmpR op_ne (pe_ix ix_tup (pv 2) pe_int (fun _ _=>rfl)) pe_str (nomark _)) (pw_or1 (pt_not (pt_val (pe_cal c__law_letters (hr.mono (by decide)) (pa_cons (pe_ix ix_tup (pv 2) pe_int (fun _ _=>rfl)) pa_nil))))))).pt (pss_one (ps_ret pe_bl)) pss_nil)
          (pss_cons (ps_if (pw_or (pt_not (pt_val (pe_blt call_isi T.b_isinstance bt_isinstance (pa_cons (pe_ix ix_tup (pv 2) pe_int (fun _ _=>rfl)) (pa_cons (pe_tyn T.b_tuple bt_tuple) pa_nil))))) (pw_or1 (pt_cmpR (op_eqNilT hr.units0) (pe_ix ix_tup (pv 2) pe_int (fun _ _=>rfl)) (pe_tup pa_nil) (nomark _)))).pt (pss_one (ps_ret pe_bl)) pss_nil)
          (pss_one (ps_expr (pe_bm PySem.F.plainAttrs_list PySem.F.slot_list_extend PySem.F.type_list_extend mt_extend (pv 1) (pa_cons (pe_bty call_list_of T.b_list bt_list (pa_cons (pe_ix ix_tup (pv 2) pe_int (fun _ _=>rfl)) pa_nil)) pa_nil)))))) (pss_one (ps_if (pt_not (pt_val (pe_cal c__law_small (hr.mono (by decide)) (pa_cons (pv 2) pa_nil)))) (pss_one (ps_ret pe_bl)) pss_nil)))))))
      (pss_one (ps_ret pe_bl)))),?_⟩
  refine ⟨_,rfl,(by show 1<=sizeLine;decide),fun p hp=>?_⟩
  refine ⟨fun m σ H1=>Same H H1/\H p=none/\∃ (o:Option V) (us:List V) (ts:List Tm),σ=[some v,some (.ref p),o]/\H1 p=some (.lst us)/\TermsAt H1 us ts/\OkL ts/\nodesL ts=m/\m<=5000000,
    ⟨t.nodes,same_new hp _,hp,_,_,[t],rfl,upd_same,.cons (ht.mono (.new hp)) .nil,⟨hok,trivial⟩,by simp [nodesL],hn⟩,?_⟩
  rintro m σ H1 ⟨s1,fp,o,us,ts,rfl,hu,hts,hoks,hnd,hm⟩
  have hlen:=hts.len
  have hln:=len_le_nodes ts
  refine ⟨_,rfl,(by show 0<=sizeLine;decide),fun e he=>?_⟩
  have s2:=same_new he (HO.lst [])
  have x2:upd H1 e (HO.lst []) e=some _:=upd_same
  generalize upd H1 e (HO.lst [])=H2 at s2 x2 |-
  refine ⟨p,e,us,rfl,rfl,s2 _ _ hu,x2,_,rfl,ite2 (fun c=>⟨_,fun _ _ h=>h,?_⟩) (fun c=>?_)⟩
  ·
    have hne:us≠[]:=by intro z;rw [z] at c;exact absurd c (by decide)
    have hs2:TermsAt H2 us ts:=hts.mono (.of s2)
    obtain ⟨us0,u,rfl⟩:∃ us0 u,us=us0++[u]:=⟨us.dropLast,us.getLast hne,(List.dropLast_concat_getLast hne).symm⟩
    obtain ⟨ts0,t1,rfl⟩:∃ ts0 t1,ts=ts0++[t1]:=by
      have:ts≠[]:=by intro z;rw [z] at hlen;simp at hlen
      exact ⟨ts.dropLast,ts.getLast this,(List.dropLast_concat_getLast this).symm⟩
    obtain ⟨hs0,ht1⟩:=hs2.snoc
    rw [okL_append] at hoks
    obtain ⟨ho0,ho1,_⟩:=hoks
    rw [nodesL_append] at hnd
    simp only [nodesL] at hnd
    refine ⟨_,rfl,.inl ⟨rfl,_,SqL.of (s2 _ _ hu)⟩,p,_,u,rfl,rfl,s2 _ _ hu,by simp,?_⟩
    rw [List.dropLast_concat]
    have k3:TSame H2 (upd H2 p (HO.lst us0)):=.lst (s2 _ _ hu)
    have x3:upd H2 p (HO.lst us0) p=some _:=upd_same
    have y3:Same H (upd H2 p (HO.lst us0)):=fun b ob z=>by rw [upd_ne (ne_of_none z fp)];exact s2 _ _ (s1 _ _ z)
    generalize upd H2 p (HO.lst us0)=H3 at k3 x3 y3 |-
    have hs3:=hs0.mono k3
    have ht3:=ht1.mono k3
    cases t1 with
    | thing x ps =>
      obtain ⟨a,b,vs,rfl,h1,h2,h3⟩:=termAt_thing.mp ht3
      simp only [Tm.Ok] at ho1
      obtain ⟨hx,hps,hop⟩:=ho1
      have hvl:=h3.len
      have hpl:=len_le_nodes ps
      simp only [Tm.nodes] at hnd
      refine ⟨_,rfl,_,_,_,_,rfl,.tup h1,.tt,_,rfl,iteF ?_⟩
      refine ⟨_,rfl,a,_,rfl,.inr (SqT.of h1),rfl,_,rfl,ite_t rfl ?_⟩
      refine ⟨_,rfl,_,_,_,_,rfl,rfl,SqT.of h1,rfl,_,_,_,_,rfl,.str _,.ss,_,rfl,iteF ⟨_,rfl,_,_,_,_,rfl,rfl,SqT.of h1,rfl,rfl,_,rfl,ite_f (by decide +kernel) ⟨_,rfl,_,_,_,_,rfl,rfl,SqT.of h1,rfl,x,rfl,hx,_,rfl,iteF ?_⟩⟩⟩
      refine ⟨_,rfl,_,_,_,_,rfl,rfl,SqT.of h1,rfl,_,_,_,_,rfl,.tup h2,.tt,_,rfl,iteF ⟨_,rfl,_,_,_,_,rfl,rfl,SqT.of h1,rfl,(by show 0<=sizeLine;decide),fun g hg=>?_⟩⟩
      have s4:=same_new hg (HO.tup [])
      have x4:upd H3 g (HO.tup []) g=some _:=upd_same
      generalize upd H3 g (HO.tup [])=H4 at s4 x4 |-
      refine ⟨b,g,vs,rfl,rfl,s4 _ _ h2,x4,_,rfl,ite_f ?_ ?_⟩
      · cases vs with
        | nil=>exact absurd (List.length_eq_zero_iff.mp hvl.symm) hps
        | cons _ _=>rfl
      refine ⟨_,rfl,.inl ⟨rfl,_,SqL.of (s4 _ _ x3)⟩,_,rfl,_,_,_,_,rfl,rfl,SqT.of (s4 _ _ h1),rfl,b,vs,rfl,.inr (SqT.of (s4 _ _ h2)),fun l hl=>?_⟩
      have s5:=same_new hl (HO.lst vs)
      have x5:upd H4 l (HO.lst vs) l=some _:=upd_same
      generalize upd H4 l (HO.lst vs)=H5 at s5 x5 |-
      have hlen0:=hs0.len
      have hln0:=len_le_nodes ts0
      refine ⟨p,l,us0,vs,rfl,rfl,s5 _ _ (s4 _ _ x3),x5,small (by omega),?_⟩
      have k6:TSame H5 (upd H5 p (HO.lst (us0++vs))):=.lst (s5 _ _ (s4 _ _ x3))
      refine ⟨nodesL ts0+nodesL ps,by omega,fun b' ob z=>?_,fp,_,_,ts0++ps,rfl,upd_same,TermsAt.mono k6 ((hs3.mono (.of (s4.trans s5))).app (h3.mono (.of (s4.trans s5)))),(okL_append _ _).mpr ⟨ho0,hop⟩,nodesL_append _ _,by omega⟩
      rw [upd_ne (ne_of_none z fp)]
      exact s5 _ _ (s4 _ _ (y3 _ _ z))
    | num n =>
      obtain ⟨a,rfl,h1⟩:=termAt_num.mp ht3
      refine ⟨_,rfl,_,_,_,_,rfl,.tup h1,.tt,_,rfl,iteF ?_⟩
      refine ⟨_,rfl,a,_,rfl,.inr (SqT.of h1),rfl,_,rfl,ite_f rfl ?_⟩
      refine ⟨_,rfl,_,_,rfl,ht3,ho1,(fun _ _ z=>nomatch z),_,rfl,iteF ?_⟩
      simp only [Tm.nodes] at hnd
      exact ⟨nodesL ts0,by omega,y3,fp,_,_,ts0,rfl,x3,hs3,ho0,rfl,by omega⟩
    | name x =>
      obtain ⟨a,rfl,h1⟩:=termAt_name.mp ht3
      refine ⟨_,rfl,_,_,_,_,rfl,.tup h1,.tt,_,rfl,iteF ?_⟩
      refine ⟨_,rfl,a,_,rfl,.inr (SqT.of h1),rfl,_,rfl,ite_f rfl ?_⟩
      refine ⟨_,rfl,_,_,rfl,ht3,ho1,(fun _ _ z=>nomatch z),_,rfl,iteF ?_⟩
      simp only [Tm.nodes] at hnd
      exact ⟨nodesL ts0,by omega,y3,fp,_,_,ts0,rfl,x3,hs3,ho0,rfl,by omega⟩
    | blank x =>
      obtain ⟨a,rfl,h1⟩:=termAt_blank.mp ht3
      refine ⟨_,rfl,_,_,_,_,rfl,.tup h1,.tt,_,rfl,iteF ?_⟩
      refine ⟨_,rfl,a,_,rfl,.inr (SqT.of h1),rfl,_,rfl,ite_f rfl ?_⟩
      refine ⟨_,rfl,_,_,rfl,ht3,ho1,(fun _ _ z=>nomatch z),_,rfl,iteF ?_⟩
      simp only [Tm.nodes] at hnd
      exact ⟨nodesL ts0,by omega,y3,fp,_,_,ts0,rfl,x3,hs3,ho0,rfl,by omega⟩
  · exact q H2 (s1.trans s2)
end
section
variable {P:Program}{w:World}{K:PySem.W.Frag}{mg:Str->Option Value}{base:Heap}
def FOk7 (f:Fl):Prop:=(∀ p∈f,Wd p.1/\p.2.Ok/\p.2.nodes<=5000000/\p.2.dp<=90/\p.2≠.blank p.1)/\f.Pairwise (fun p q=>p.1.cps.toList<q.1.cps.toList)
theorem FOk7.nodup {f:Fl}(h:FOk7 f):(f.map (·.1)).Nodup:=by
  rw [List.nodup_iff_pairwise_ne,List.pairwise_map]
  exact h.2.imp fun h e=>by rw [e] at h;exact absurd h (List.lt_irrefl _)
def spIsFill:Sp:=fun vs H Q _=>∃ (l:Addr) (ps:List V) (f:Fl),vs=[.ref l]/\H l=some (.lst ps)/\FillAt H ps f/\FOk7 f/\∀ H',Same H H'->Q (.bl true) H'
theorem ok_is_filling {f0:Addr}{fd:FuncData}(F:Fun K "_law_is_filling" "_law_is_filling" s_law_is_filling f0 fd) (T:Bi mg) (c__law_letters:Cal P w K mg base 1 "_law_letters" ["_law_found"] spLetters)
    (c__law_is_term:Cal P w K mg base 3 "_law_is_term" ["_law_found"] spIsTerm):FnOk P w K mg base CX0 4 f0 fd ["_law_found"] spIsFill:=by
  refine F.ok sc_law_is_filling (fun vs H Q E h=>?_) (fun cdv A outer s H vs Q E hr h=>?_)
  · obtain ⟨_,_,_,rfl,_⟩:=h
    rfl
  obtain ⟨l,ps,f,rfl,hl,hf,hok,q⟩:=h
  have hun:=hr.un
  have hlen:=hf.len
  refine ⟨_,(pss_cons (ps_if (pt_not (pt_val (pe_blt call_isi T.b_isinstance bt_isinstance (pa_cons (pv 0) (pa_cons (pe_tyn T.b_list bt_list) pa_nil))))) (pss_one (ps_ret pe_bl)) pss_nil)
      (pss_cons (ps_set (i:=1) sc_law_is_filling.nd rfl (Or.inl rfl) pe_str)
      (pss_cons (ps_for PassesOwn.never rfl (pi_list (pv 0)) (pg_name (i:=2) sc_law_is_filling.nd rfl (Or.inl rfl)) (pss_cons (ps_if (pw_or (pt_not (pt_val (pe_blt call_isi T.b_isinstance bt_isinstance (pa_cons (pv 2) (pa_cons (pe_tyn T.b_tuple bt_tuple) pa_nil))))) (pw_or1 (pt_cmpR op_ne (pe_blt call_len_seq T.b_len bt_len (pa_cons (pv 2) pa_nil)) pe_int (nomark _)))).pt (pss_one (ps_ret pe_bl)) pss_nil)
        (pss_cons (ps_if (pw_or (pt_not (pt_val (pe_cal c__law_letters (hr.mono (by decide)) (pa_cons (pe_ix ix_tup (pv 2) pe_int (fun _ _=>rfl)) pa_nil)))) (pw_or (pt_cmpR op_le_str (pe_ix ix_tup (pv 2) pe_int (fun _ _=>rfl)) (pv 1) (nomark _)) (pw_or1 (pt_not (pt_val (pe_cal c__law_is_term (hr.mono (by decide)) (pa_cons (pe_ix ix_tup (pv 2) pe_int (fun _ _=>rfl)) pa_nil))))))).pt (pss_one (ps_ret pe_bl)) pss_nil)
        (pss_cons (ps_if (pt_cmpR op_eqTd (pe_ix ix_tup (pv 2) pe_int (fun _ _=>rfl)) (pe_tup (pa_cons pe_str (pa_cons (pe_ix ix_tup (pv 2) pe_int (fun _ _=>rfl)) pa_nil))) (nomark _)) (pss_one (ps_ret pe_bl)) pss_nil)
        (pss_one (ps_set (i:=1) sc_law_is_filling.nd rfl (Or.inl rfl) (pe_ix ix_tup (pv 2) pe_int (fun _ _=>rfl))))))))
      (pss_one (ps_ret pe_bl))))),?_⟩
  refine ⟨_,rfl,_,_,_,_,rfl,.lst hl,.ll,_,rfl,iteF ?_⟩
  refine ⟨_,rfl,l,rfl,⟨_,SqL.of hl⟩,for_list (K:=K) (a:=l) (xs:=ps) (fun i σ H3=>∃ (x:Str) (o:Option V),σ=[some (.ref l),some (.str x),o]/\Same H H3/\∀ j p,i<=j->f[j]?=some p->x.cps.toList<p.1.cps.toList)
    ⟨"",none,rfl,Same.refl _,fun j p _ hp=>?_⟩ (fun i σ H3 _ ⟨_,_,_,s3,_⟩=>s3.seq (SqL.of hl)) ?_ ?_⟩
  · have hw:=(hok.1 p (List.mem_of_getElem? hp)).1
    have e:(Str.ofString "").cps.toList=[]:=by decide +kernel
    rw [e]
    cases hc:p.1.cps.toList with
    | nil=>have:=hw.1;rw [hc] at this;simp at this
    | cons a b=>exact List.nil_lt_cons a b
  · rintro i y σ H3 hy ⟨x,o,rfl,s3,hx⟩
    have hi:i<ps.length:=(List.getElem?_eq_some_iff.mp hy).1
    obtain ⟨a,v,ea,ha0,hv0⟩:=hf.get i hi (by omega)
    have ey:y=.ref a:=by rw [<- ea];exact ((List.getElem?_eq_some_iff.mp hy).2).symm
    subst ey
    have ha:H3 a=some _:=s3 _ _ ha0
    have hv:TermAt H3 v (f[i]'(by omega)).2:=hv0.mono (.of s3)
    have hfi:f[i]?=some (f[i]'(by omega)):=List.getElem?_eq_getElem (by omega)
    obtain ⟨hw,hto,htn,htd,htb⟩:=hok.1 _ (List.getElem_mem (by omega:i<f.length))
    have hlt:=hx i _ (Nat.le_refl _) hfi
    refine ⟨_,rfl,_,_,_,_,rfl,.tup ha,.tt,_,rfl,iteF ⟨_,rfl,a,_,rfl,.inr (SqT.of ha),rfl,_,rfl,iteF ?_⟩⟩
    refine ⟨_,rfl,_,_,_,_,rfl,rfl,SqT.of ha,rfl,_,rfl,hw,_,rfl,iteF ⟨_,rfl,_,_,_,_,rfl,rfl,SqT.of ha,rfl,_,rfl,_,_,rfl,rfl,_,rfl,ite_f (by rw [decide_eq_true hlt];rfl) ?_⟩⟩
    refine ⟨_,rfl,_,_,_,_,rfl,rfl,SqT.of ha,rfl,v,_,rfl,hv,hto,by omega,fun H4 s4=>⟨_,rfl,iteF ?_⟩⟩
    have ha4:=s4 _ _ ha
    refine ⟨_,rfl,_,_,_,_,rfl,rfl,SqT.of ha4,rfl,_,rfl,_,_,_,_,rfl,rfl,SqT.of ha4,rfl,(by show 2<=sizeLine;decide),fun g hg=>?_⟩
    have s5:=same_new hg (HO.tup [.str "blank",.str (f[i]'(by omega)).1])
    have x5:upd H4 g (HO.tup [.str "blank",.str (f[i]'(by omega)).1]) g=some _:=upd_same
    generalize upd H4 g (HO.tup [.str "blank",.str (f[i]'(by omega)).1])=H5 at s5 x5 |-
    refine ⟨_,.blank (f[i]'(by omega)).1,(hv.mono (.of s4)).mono (.of s5),termAt_blank.mpr ⟨g,rfl,x5⟩,?_,fun b hb=>⟨_,rfl,ite_f (Bool.eq_false_iff.mpr fun z=>htb (hb.mp z)) ?_⟩⟩
    · have hdd:=dep_dp (f[i]'(by omega)).2
      show (A.deeper _).units+(f[i]'(by omega)).2.dt.dep<cLine
      omega
    refine ⟨_,rfl,_,_,_,_,rfl,rfl,SqT.of (s5 _ _ ha4),rfl,_,_,rfl,s3.trans (s4.trans s5),fun j p hj hp=>?_⟩
    obtain ⟨hjl,ejp⟩:=List.getElem?_eq_some_iff.mp hp
    rw [<- ejp]
    exact List.pairwise_iff_getElem.mp hok.2 i j (by omega) hjl (by omega)
  · rintro σ H3 ⟨x,o,rfl,s3,hx⟩
    exact q H3 s3
end
end K08
namespace BF
open PySem Classical
theorem look_key {f:Fl}(hn:(f.map (·.1)).Nodup) {p:Str×Tm}(h:p∈f):look f p.1=some p.2:=by
  induction f with
  | nil=>cases h
  | cons a r ih =>
    rw [List.map_cons,List.nodup_cons] at hn
    rcases List.mem_cons.mp h with z | z
    · subst z;simp [look]
    · have hne:¬ a.1=p.1:=fun e=>hn.1 (by rw [e];exact List.mem_map.mpr ⟨_,z,rfl⟩)
      have:=ih hn.2 z
      simp only [look,List.find?_cons,decide_eq_false hne] at this |-
      exact this
theorem str_eq {x y:Str}(h:x.cps.toList=y.cps.toList):x=y:=by
  cases x with | mk a=>cases y with | mk b=>simp only [Str.mk.injEq];exact Array.ext' h
theorem called_nodup {f:Fl}(hl:f.length<=700) (hc:∀ i p,f[i]?=some p->p.1.cps.toList=callL i):(f.map (·.1)).Nodup:=by
  rw [List.nodup_iff_pairwise_ne,List.pairwise_map,List.pairwise_iff_getElem]
  intro i j hi hj hij e
  have h1:=hc i _ (List.getElem?_eq_getElem hi)
  have h2:=hc j _ (List.getElem?_eq_getElem hj)
  rw [e,h2] at h1
  have:=callL_inj (by omega) (by omega) h1
  omega
theorem hid_in_sub {m:Nat}{f:Fl}(hl:f.length<=m) (h7:f.length<=700) (hc:∀ i p,f[i]?=some p->p.1.cps.toList=callL i) {t p:Tm}(h:HidIn m (f.map (·.2)) t p):p.sub (fsub f)=t:=by
  obtain ⟨x,i,rfl,hx,hs⟩:=h
  rw [List.getElem?_map] at hs
  cases hf:f[i]? with
  | none=>rw [hf] at hs;cases hs
  | some q =>
    rw [hf] at hs
    have hq:q.2=t:=Option.some.inj hs
    have hi:=(List.getElem?_eq_some_iff.mp hf).1
    rw [Nat.mod_eq_of_lt (by omega)] at hx
    have ex:x=q.1:=str_eq (by rw [hx,hc i q hf])
    have hk:=look_key (called_nodup h7 hc) (List.mem_of_getElem? hf)
    show (look f x).getD (.blank x)=t
    rw [ex,hk,<- hq]
    rfl
theorem first_out {f:Fl}(hc:∀ i p,f[i]?=some p->p.1.cps.toList=callL i) {x:Str}(h:FirstX x):fsub f x=.blank x:=by
  have:look f x=none:=look_out fun z=>by
    obtain ⟨p,hp,rfl⟩:=List.mem_map.mp z
    obtain ⟨i,hi,ei⟩:=List.mem_iff_getElem.mp hp
    exact firstX_not h (hc i p (by rw [<- ei];exact List.getElem?_eq_getElem hi))
  simp [fsub,this]
theorem hid_sub {m:Nat}{f:Fl}(hl:f.length<=m) (h7:f.length<=700) (hc:∀ i p,f[i]?=some p->p.1.cps.toList=callL i) (t:Tm):∀ p,Hid m (f.map (·.2)) t p->p.sub (fsub f)=t:=by
  refine Tm.ind (P:=fun t=>∀ p,Hid m (f.map (·.2)) t p->p.sub (fsub f)=t) (fun n p h=>?_) (fun n p h=>?_) (fun n p h=>?_) (fun n ts ih p h=>?_) t
  · simp only [Hid] at h
    rcases h with h | rfl
    · exact hid_in_sub hl h7 hc h
    · rfl
  · simp only [Hid] at h
    rcases h with h | rfl
    · exact hid_in_sub hl h7 hc h
    · rfl
  · simp only [Hid] at h
    rcases h with h | ⟨rfl,hx⟩
    · exact hid_in_sub hl h7 hc h
    · exact first_out hc hx
  · simp only [Hid] at h
    rcases h with h | ⟨ps,rfl,hL⟩
    · exact hid_in_sub hl h7 hc h
    · simp only [Tm.sub]
      congr 1
      clear hl h7
      induction ts generalizing ps with
      | nil=>simp only [HidL] at hL;subst hL;rfl
      | cons a r ih2 =>
        simp only [HidL] at hL
        obtain ⟨q,s,rfl,h1,h2⟩:=hL
        simp only [subL]
        rw [ih a (by simp) q h1,ih2 (fun b hb=>ih b (by simp [hb])) s h2]
theorem nodes_sub_ge {φ:Str->Tm}(t:Tm):t.nodes<=(t.sub φ).nodes:=by
  refine Tm.ind (P:=fun t=>t.nodes<=(t.sub φ).nodes) (fun _=>Nat.le_refl _) (fun _=>Nat.le_refl _) (fun x=>?_) (fun x ps ih=>?_) t
  · have:=((Tm.blank x).sub φ).nodes_pos
    simpa [Tm.nodes] using this
  · simp only [Tm.sub,Tm.nodes]
    have:nodesL ps<=nodesL (subL φ ps):=by
      induction ps with
      | nil=>simp [subL,nodesL]
      | cons a r ih2 =>
        have h1:=ih a (by simp)
        have h2:=ih2 fun p hp=>ih p (by simp [hp])
        simp only [subL,nodesL]
        omega
    omega
theorem Alk.okT {g:Ln}{f:Fl}{fs:List Lf}{ns:List Nat}(h:Alk g f fs ns) (hn:(f.map (·.1)).Nodup) (ok:∀ t∈parts2 g,t.Ok):∀ (n:Nat) (t:Tm),t∈parts2 g->isB t=false->(t.sub (fsub f)).nodes<=n->(t.sub (fsub f)).Ok:=by
  intro n
  induction n with
  | zero=>intro t _ _ hn;have:=(t.sub (fsub f)).nodes_pos;omega
  | succ n ih =>
    intro t ht hb hle
    cases t with
    | num _=>exact ok _ ht
    | name _=>exact ok _ ht
    | blank _=>cases hb
    | thing w ps =>
      have ho:=ok _ ht
      simp only [Tm.Ok] at ho
      simp only [Tm.sub,Tm.Ok]
      refine ⟨ho.1,fun z=>ho.2.1 ?_,?_⟩
      · have:=congrArg List.length z
        rw [subL_len] at this
        exact List.length_eq_zero_iff.mp this
      · rw [subL_map,okL_iff]
        intro q hq
        obtain ⟨p,hp,rfl⟩:=List.mem_map.mp hq
        have hlt:(p.sub (fsub f)).nodes<((Tm.thing w ps).sub (fsub f)).nodes:=nodes_zip hp
        have hpU:=parts2_part ht hp
        cases p with
        | num _=>exact ih _ hpU rfl (by omega)
        | name _=>exact ih _ hpU rfl (by omega)
        | thing _ _=>exact ih _ hpU rfl (by omega)
        | blank x =>
          show (fsub f x).Ok
          cases hl:look f x with
          | none=>simp only [fsub,hl,Option.getD_none];exact ok _ hpU
          | some p2 =>
            obtain ⟨e,he,e2,e3⟩:=h.val _ (look_mem hl)
            have ee:fsub f x=e.sub (fsub f):=by simp only [fsub,hl,Option.getD_some];exact e2
            have hlt':(e.sub (fsub f)).nodes<=n:=by
              have:((Tm.blank x).sub (fsub f)).nodes=(e.sub (fsub f)).nodes:=by show (fsub f x).nodes=_;rw [ee]
              omega
            rw [ee]
            cases e with
            | num _=>exact ok _ he
            | name _=>exact ok _ he
            | blank y=>show (fsub f y).Ok;rw [e3 y rfl];exact ok _ he
            | thing _ _=>exact ih _ he rfl hlt'
theorem Alk.ok {g:Ln}{f:Fl}{fs:List Lf}{ns:List Nat}(h:Alk g f fs ns) (hn:(f.map (·.1)).Nodup) (ok:∀ t∈parts2 g,t.Ok) {p:Str×Tm}(hp:p∈f):p.2.Ok:=by
  obtain ⟨e,he,e2,e3⟩:=h.val p hp
  rw [e2]
  cases e with
  | num _=>exact ok _ he
  | name _=>exact ok _ he
  | blank y=>show (fsub f y).Ok;rw [e3 y rfl];exact ok _ he
  | thing _ _=>exact h.okT hn ok _ _ he rfl (Nat.le_refl _)
theorem Alk.nodup {g:Ln}{f:Fl}{fs:List Lf}{ns:List Nat}(h:Alk g f fs ns):(f.map (·.1)).Nodup:=by
  rw [List.nodup_iff_pairwise_ne,List.pairwise_map]
  exact h.rise.imp fun h e=>by rw [e] at h;exact absurd h (List.lt_irrefl _)
theorem parts2_ok {g:Ln}(h1:g.1.Ok) (h2:g.2.Ok):∀ t∈parts2 g,t.Ok:=fun t ht=>by
  rcases List.mem_append.mp ht with z | z
  · exact rp_ok h1 _ z
  · exact rp_ok h2 _ z
theorem no_sol_clash {g:Ln}{fs:List Lf}{m:Nat}{z:Lf}(hs:Snd g [] fs) (hz:fs[m]?=some z) (nb1:isB z.1.1=false) (nb2:isB z.1.2=false) (hd:∀ φ:Str->Tm,z.1.1.sub φ≠z.1.2.sub φ) (φ:Str->Tm):¬ Sol φ g:=fun h =>
  hd φ (snd_sol h fs [] hs (fun _ h=>by cases h) z (List.mem_of_getElem? hz))
theorem no_sol_ring {g:Ln}{fs:List Lf}{R:List Ln}(hs:Snd g [] fs) (hR:RingOk R) (hin:∀ p∈R,∃ z∈fs,z.1=p) (φ:Str->Tm):¬ Sol φ g:=fun h=>by
  refine ring_no (φ:=φ) hR fun p hp=>?_
  obtain ⟨z,hz,rfl⟩:=hin p hp
  exact snd_sol h fs [] hs (fun _ h=>by cases h) z hz
end BF
namespace K08
open PySem L2 BF
section
variable {P:Program}{w:World}{K:PySem.W.Frag}{mg:Str->Option Value}{base:Heap}
theorem bl_wd {t:Tm}:t.Ok->∀ x∈t.bl,Wd x:=by
  refine Tm.ind (P:=fun t=>t.Ok->∀ x∈t.bl,Wd x) (fun _ _ x h=>by simp [Tm.bl] at h) (fun _ _ x h=>by simp [Tm.bl] at h) (fun w h x hx=>?_) (fun w ps ih h x hx=>?_) t
  · simp only [Tm.bl,List.mem_singleton] at hx
    subst hx
    simpa [Tm.Ok] using h
  · simp only [Tm.bl] at hx
    obtain ⟨p,hp,hx⟩:=mem_blL.mp hx
    simp only [Tm.Ok] at h
    exact ih p hp ((okL_iff ps).mp h.2.2 p hp) x hx
theorem hd_sub {t:Tm}{φ:Str->Tm}(h:isB t=false):hdL (t.sub φ)=hdL t:=by
  cases t <;> simp [Tm.sub,hdL,isB,subL_len] at h |-
theorem clash_no {t u:Tm}(h:Clash t u) (φ:Str->Tm):t.sub φ≠u.sub φ:=fun e=>h.2.2 (by rw [<- hd_sub (φ:=φ) h.1,<- hd_sub (φ:=φ) h.2.1,e])
theorem nums_in {fs:List Lf}{ns:List Nat}{R:List Ln}(h:NumsAt fs ns R):∀ p∈R,∃ z∈fs,z.1=p:=by
  induction h with
  | nil=>intro p hp;cases hp
  | cons a _ ih =>
    intro p hp
    rcases List.mem_cons.mp hp with y | y
    · obtain ⟨z,hz,e⟩:=a
      exact ⟨z,List.mem_of_getElem? hz,by rw [e,y]⟩
    · exact ih p y
def spRoom (K:PySem.W.Frag):Sp:=fun vs H Q _=>∃ (a:Addr) (ns:List Int) (m b:Int),vs=[.ref a,.int m,.int b]/\SqL K H a (ns.map V.int)/\ns.length<=63/\Q (.int m) H
theorem ok_room {f:Addr}{fd:FuncData}(F:Fun K "_law_room" "_law_room" s_law_room f fd) (T:Bi mg):FnOk P w K mg base CX0 1 f fd ["_law_script","_law_most","_law_bound"] (spRoom K):=by
  refine F.ok sc_law_room (fun vs H Q E h=>?_) (fun cdv A outer s H vs Q E hr h=>?_)
  · obtain ⟨_,_,_,_,rfl,_⟩:=h
    rfl
  obtain ⟨a,ns,m,b,rfl,hS,hn,q⟩:=h
  refine ⟨_,(pss_cons (ps_if (pt_cmpR op_gt (pe_blt call_len_seq T.b_len bt_len (pa_cons (pv 0) pa_nil)) pe_int (nomark _)) (pss_one (ps_ret (pv 2))) pss_nil)
      (pss_one (ps_ret (pv 1)))),?_⟩
  refine ⟨_,rfl,a,_,rfl,.inl hS,_,_,rfl,rfl,_,rfl,ite2 (fun c=>?_) (fun c=>⟨_,rfl,q⟩)⟩
  have c':=of_decide_eq_true c
  rw [zLM] at c'
  omega
def spGood:Sp:=fun vs H Q _=>∃ (lf:Addr) (ps:List V) (f:Fl) (v1 v2:V) (t1 t2:Tm),vs=[.ref lf,v1,v2]/\H lf=some (.lst ps)/\FillAt H ps f/\FOk7 f/\TermAt H v1 t1/\TermAt H v2 t2/\t1.nodes<=900/\t2.nodes<=900/\(∀ p∈f,p.1∈t1.bl\/p.1∈t2.bl)/\(∀ p∈f,∀ x∈p.2.bl,(x∈t1.bl\/x∈t2.bl)/\x∉f.map (·.1))/\t1.fill f=t2.fill f/\(t1.fill f).dp<=90/\f.length<=1000/\∀ H',Same H H'->Q (.bl true) H'
theorem ok_good {f0:Addr}{fd:FuncData}(F:Fun K "_law_good" "_law_good" s_law_good f0 fd) (T:Bi mg) (c__law_is_filling:Cal P w K mg base 4 "_law_is_filling" ["_law_found"] spIsFill) (c__law_blanks:Cal P w K mg base 2 "_law_blanks" ["_law_term"] spBlanks) (c__law_fill:Cal P w K mg base 2 "_law_fill" ["_law_term","_law_pairs"] spFill) :
    FnOk P w K mg base CX0 5 f0 fd ["_law_filling","_law_one","_law_other"] spGood:=by
  refine F.ok sc_law_good (fun vs H Q E h=>?_) (fun cdv A outer s H vs Q E hr h=>?_)
  · obtain ⟨_,_,_,_,_,_,_,rfl,_⟩:=h
    rfl
  obtain ⟨lf,ps,f,v1,v2,t1,t2,rfl,hl,hf,hok,h1,h2,hn1,hn2,hkey,hcl,heq,hdp,hfl,q⟩:=h
  have hun:=hr.un
  have hb1:=len_bl t1
  have hb2:=len_bl t2
  have hf1:=firsts_len t1
  have hf2:=firsts_len t2
  have hpl:=hf.len
  refine ⟨_,(pss_cons (ps_if (pt_not (pt_val (pe_cal c__law_is_filling (hr.mono (by decide)) (pa_cons (pv 0) pa_nil)))) (pss_one (ps_ret pe_bl)) pss_nil)
      (pss_cons (ps_set (i:=3) sc_law_good.nd rfl (Or.inl rfl) (pe_op op_cat (pe_cal c__law_blanks (hr.mono (by decide)) (pa_cons (pv 1) pa_nil)) (pe_cal c__law_blanks (hr.mono (by decide)) (pa_cons (pv 2) pa_nil))))
      (pss_cons (ps_compset (i:=4) (Nc:=["_law_pair"]) (k:=1) (js:=[]) ⟨rfl,rfl,rfl,rfl,rfl,rfl⟩ sc_law_good.nd rfl (Or.inl rfl) (pi_list (pv 0)) (fun _ _ _ _=>pg_name (i:=0) (show (["_law_pair"]:List Str).Nodup by decide +kernel) rfl (Or.inl rfl)) (fun _ _ _ _=>pts_nil) (fun _ _ _ _=>(pe_ix ix_tup (pv 0) pe_int (fun _ _=>rfl))))
      (pss_cons (ps_for PassesOwn.never rfl (pi_list (pv 0)) (pg_name (i:=5) sc_law_good.nd rfl (Or.inl rfl)) (pss_cons (ps_if (pt_cmpR op_notInD (pe_ix ix_tup (pv 5) pe_int (fun _ _=>rfl)) (pv 3) (by with_unfolding_all rfl)) (pss_one (ps_ret pe_bl)) pss_nil)
        (pss_one (ps_for PassesOwn.never rfl (pi_list (pe_cal c__law_blanks (hr.mono (by decide)) (pa_cons (pe_ix ix_tup (pv 5) pe_int (fun _ _=>rfl)) pa_nil))) (pg_name (i:=6) sc_law_good.nd rfl (Or.inl rfl)) (pss_one (ps_if (pw_or (pt_cmpR op_notInD (pv 6) (pv 3) (by with_unfolding_all rfl)) (pw_or1 (pt_cmpR op_inD (pv 6) (pv 4) (by with_unfolding_all rfl)))).pt (pss_one (ps_ret pe_bl)) pss_nil))))))
      (pss_one (ps_ret (pe_cmpR op_eqTd (pe_cal c__law_fill (hr.mono (by decide)) (pa_cons (pv 1) (pa_cons (pv 0) pa_nil))) (pe_cal c__law_fill (hr.mono (by decide)) (pa_cons (pv 2) (pa_cons (pv 0) pa_nil))) (nomark _)))))))),?_⟩
  refine ⟨_,rfl,lf,ps,f,rfl,hl,hf,hok,fun H1 s1=>⟨_,rfl,iteF ?_⟩⟩
  refine ⟨_,rfl,v1,t1,rfl,h1.mono (.of s1),by omega,fun l1 H2 s2 g2=>⟨_,rfl,v2,t2,rfl,h2.mono (.of (s1.trans s2)),by omega,fun l2 H3 s3 g3=>⟨l1,l2,_,_,rfl,rfl,s3 _ _ g2,g3,small (by simp only [zLM];omega),fun lk fk=>?_⟩⟩⟩
  rw [<- List.map_append]
  have t4:=same_new fk (HO.lst ((t1.firsts++t2.firsts).map V.str))
  have x4:upd H3 lk (HO.lst ((t1.firsts++t2.firsts).map V.str)) lk=some _:=upd_same
  generalize upd H3 lk (HO.lst ((t1.firsts++t2.firsts).map V.str))=H4 at t4 x4 |-
  have s4:=s1.trans (s2.trans (s3.trans t4))
  have hl4:=s4 _ _ hl
  have hws:∀ x,x∈t1.firsts++t2.firsts↔x∈t1.bl\/x∈t2.bl:=fun x=>by rw [List.mem_append,mem_firsts,mem_firsts]
  refine ⟨_,rfl,lf,rfl,⟨_,SqL.of hl4⟩,fun D fD _ _ _ _=>?_⟩
  refine comp_listN (K:=K) (a:=lf) (xs:=ps) (fun n σ HX=>∃ (o:Option V),σ=[o]/\Same H4 HX/\HX D=some (.lst (((f.map (·.1)).take n).map V.str))) ⟨none,rfl,same_new fD _,upd_same⟩ (fun n σ HX _ ⟨_,_,sX,_⟩=>sX.seq (SqL.of hl4)) ?_ ?_
  · rintro n y σ HX hy ⟨o,rfl,sX,gD⟩
    obtain ⟨hi,ey⟩:=List.getElem?_eq_some_iff.mp hy
    have hi':n<f.length:=by omega
    obtain ⟨b,v,eb,hb0,_⟩:=hf.get n hi hi'
    rw [ey] at eb
    subst eb
    refine ⟨_,rfl,_,_,_,_,rfl,rfl,SqT.of (sX _ _ (s4 _ _ hb0)),at0',_,gD,big (by simp only [zLM,List.length_take];omega),?_⟩
    refine ⟨_,rfl,fun b ob z=>by rw [upd_ne (ne_of_none z fD)];exact sX _ _ z,?_⟩
    have hi2:n<(f.map (·.1)).length:=by rw [zLM];exact hi'
    rw [upd_same,List.take_succ_eq_append_getElem hi2,List.map_append,List.getElem_map]
    rfl
  rintro σ0 H5 ⟨o,rfl,s5,gD⟩
  rw [List.take_of_length_le (by rw [zLM];omega)] at gD
  have s05:=s4.trans s5
  have hl5:=s05 _ _ hl
  have x5:=s5 _ _ x4
  have hin:∀ {x:Str}{l:List Str},Dt.str x∈l.map Dt.str↔x∈l:=fun {x l}=>by
    constructor
    · intro z
      obtain ⟨y,hy,e⟩:=List.mem_map.mp z
      cases e
      exact hy
    · intro z;exact List.mem_map.mpr ⟨x,z,rfl⟩
  have hunits:∀ (l:List Str) (k:Nat),k<=2->∀ e∈l.map Dt.str,(A.deeper (PyProof.Rows.envOfC "_law_good" (defScope s_law_good) s.heap.objs.size f0 cdv)).units+k+e.dep<cLine:=fun l k hk e hE=>by
    obtain ⟨y,_,rfl⟩:=List.mem_map.mp hE
    show (A.deeper _).units+k+0<cLine
    omega
  refine ⟨_,rfl,lf,rfl,⟨_,SqL.of hl5⟩,for_list (K:=K) (a:=lf) (xs:=ps) (fun i σ HX=>∃ (o5 o6:Option V),σ=[some (.ref lf),some v1,some v2,some (.ref lk),some (.ref D),o5,o6]/\Same H5 HX) ⟨none,none,rfl,Same.refl _⟩ (fun i σ HX _ ⟨_,_,_,sX⟩=>sX.seq (SqL.of hl5)) ?_ ?_⟩
  · rintro i y σ HX hy ⟨o5,o6,rfl,sX⟩
    obtain ⟨hi,ey⟩:=List.getElem?_eq_some_iff.mp hy
    have hi':i<f.length:=by omega
    obtain ⟨b,v,eb,hb0,hv⟩:=hf.get i hi hi'
    rw [ey] at eb
    subst eb
    have s0X:=s05.trans sX
    have hb:=s0X _ _ hb0
    have hpm:=List.getElem_mem hi'
    obtain ⟨_,_,htn,_,_⟩:=hok.1 _ hpm
    refine ⟨_,rfl,_,_,_,_,rfl,rfl,SqT.of hb,at0',_,rfl,.str f[i].1,lk,_,_,by simp [DatAt],rfl,sX _ _ x5,dats_strs _,hunits _ 1 (by omega),fun bb hbb=>⟨_,rfl,ite_f (Bool.eq_false_iff.mpr fun z=>hbb.mp z (hin.mpr ((hws _).mpr (hkey _ hpm)))) ?_⟩⟩
    have hcl':=hcl _ hpm
    refine ⟨_,rfl,_,_,_,_,rfl,rfl,SqT.of hb,at1',v,f[i].2,rfl,hv.mono (.of s0X),by omega,fun lb HY sY glb=>⟨lb,rfl,⟨_,SqL.of glb⟩,for_list (K:=K) (a:=lb) (xs:=f[i].2.firsts.map V.str) (fun j σ HZ=>∃ (o6:Option V),σ=[some (.ref lf),some v1,some v2,some (.ref lk),some (.ref D),some (.ref b),o6]/\Same HY HZ) ⟨_,rfl,Same.refl _⟩ (fun j σ HZ _ ⟨_,_,sZ⟩=>sZ.seq (SqL.of glb)) ?_ ?_⟩⟩
    · rintro j y2 σ HZ hy2 ⟨o6,rfl,sZ⟩
      have hj:j<f[i].2.firsts.length:=by have:=(List.getElem?_eq_some_iff.mp hy2).1;simpa using this
      have ey2:y2=.str f[i].2.firsts[j]:=by
        rw [List.getElem?_map,List.getElem?_eq_getElem hj] at hy2
        exact (Option.some.inj hy2).symm
      subst ey2
      obtain ⟨c1,c2⟩:=hcl' _ (mem_firsts.mp (List.getElem_mem hj))
      have sXZ:=sX.trans (sY.trans sZ)
      have s5Z:=sY.trans sZ
      refine ⟨_,rfl,_,rfl,.str f[i].2.firsts[j],lk,_,_,by simp [DatAt],rfl,sXZ _ _ x5,dats_strs _,hunits _ 1 (by omega),fun bb hbb=>⟨_,rfl,ite_f (Bool.eq_false_iff.mpr fun z=>hbb.mp z (hin.mpr ((hws _).mpr c1))) ?_⟩⟩
      refine ⟨_,rfl,_,rfl,.str f[i].2.firsts[j],D,_,_,by simp [DatAt],rfl,sXZ _ _ gD,dats_strs _,hunits _ 1 (by omega),fun bb hbb=>⟨_,rfl,ite_f (Bool.eq_false_iff.mpr fun z=>c2 (hin.mp (hbb.mp z))) ⟨_,rfl,sZ⟩⟩⟩
    · rintro σ HZ ⟨o6,rfl,sZ⟩
      exact ⟨_,_,rfl,sX.trans (sY.trans sZ)⟩
  rintro σ HX ⟨o5,o6,rfl,sX⟩
  have s0X:=s05.trans sX
  refine ⟨_,rfl,_,rfl,v1,t1,lf,ps,f,rfl,h1.mono (.of s0X),by omega,s0X _ _ hl,hf.mono (.of s0X),hok.nodup,fun w1 HY sY hw1=>⟨_,rfl,_,rfl,v2,t2,lf,ps,f,rfl,h2.mono (.of (s0X.trans sY)),by omega,(s0X.trans sY) _ _ hl,hf.mono (.of (s0X.trans sY)),hok.nodup,fun w2 HZ sZ hw2=>?_⟩⟩
  have hdd:=dep_dp (t1.fill f)
  refine ⟨t1.fill f,t2.fill f,hw1.mono (.of sZ),hw2,(by show (A.deeper _).units+(t1.fill f).dt.dep<cLine;omega),fun bb hbb=>?_⟩
  rw [hbb.mpr heq]
  exact q _ (s0X.trans (sY.trans sZ))
end
end K08
namespace K08
open PySem L2 BF
section
variable {P:Program}{w:World}{K:PySem.W.Frag}{mg:Str->Option Value}{base:Heap}
def spFof:Sp:=fun vs H Q _=>∃ (d:Addr) (kvs:List (Key×V)) (f:Fl),vs=[.ref d]/\H d=some (.dK kvs)/\KvsAt H kvs f/\(f.map (·.1)).Nodup/\f.length<64/\(∀ p∈f,p.2.dp<=90) /\
  ∀ (l:Addr) (ps:List V) (ss:List Str) (H':Hp),Same H H'->H l=none->H' l=some (.lst ps)->ss.Perm (f.map (·.1))->(ss.Pairwise fun a b=>a.cps.toList<b.cps.toList)->FillAt H' ps (nrm f ss)->Q (.ref l) H'
theorem ok_filling_of {f0:Addr}{fd:FuncData}(F:Fun K "filling_of" "filling_of" s_filling_of f0 fd) (TS:mg "sorted"=none):FnOk P w K mg base CX0 1 f0 fd ["terms"] spFof:=by
  refine F.ok sc_filling_of (fun vs H Q E h=>?_) (fun cdv A outer s H vs Q E hr h=>?_)
  · obtain ⟨_,_,_,rfl,_⟩:=h
    rfl
  obtain ⟨d,kvs,f,rfl,hd,hk,hnd,hlen,hsz,q⟩:=h
  have hun:=hr.un
  have hu:(A.deeper (PyProof.Rows.envOfC "filling_of" (defScope s_filling_of) s.heap.objs.size f0 cdv)).units+1<cLine:=by omega
  refine ⟨_,(pss_one (ps_ret (pe_comp (Nc:=["word","terms" ]) (k:=1) (js:=[0]) ⟨rfl,rfl,rfl,rfl,rfl,rfl⟩ (pi_list (pe_blt (call_sorted_dict rfl) TS bt_sorted (pa_cons (pv 0) pa_nil))) (fun _ _ _ _=>pg_name (i:=0) (show (["word","terms" ]:List Str).Nodup by decide +kernel) rfl (Or.inl rfl)) (fun _ _ _ _=>pts_one (pt_cmpR op_neTd (pe_dget hu (pv 1) (pv 0) (fun _ _=>rfl)) (pe_tup (pa_cons pe_str (pa_cons (pv 0) pa_nil))) (nomark _))) (fun _ _ _ _=>(pe_tup (pa_cons (pv 0) (pa_cons (pe_dget hu (pv 1) (pv 0) (fun _ _=>rfl)) pa_nil))))))),?_⟩
  refine ⟨_,rfl,d,kvs,f.map (·.1),rfl,hd,hk.keys,by rw [zLM];exact hlen,fun ls ss hls hperm hpair=>?_⟩
  have hst:=strict_of hperm hnd hpair
  have hsl:ss.length=f.length:=by rw [hperm.length_eq,zLM]
  have s1:=same_new hls (HO.lst (ss.map V.str))
  have x1:upd H ls (HO.lst (ss.map V.str)) ls=some _:=upd_same
  generalize upd H ls (HO.lst (ss.map V.str))=H1 at s1 x1 |-
  refine ⟨ls,rfl,⟨_,SqL.of x1⟩,fun D hD C _ _ _=>let I1:Nat->L2.St->Hp->Prop:=(fun i σ H3=>∃ (o:Option V) (qs:List V),σ=[o,some (.ref d)]/\Same H1 H3/\H3 D=some (.lst qs)/\FillAt H3 qs (nrm f (ss.take i))/\qs.length<=i);comp_list (K:=K) (a:=ls) (xs:=ss.map V.str) I1
    ⟨none,[],rfl,same_new hD _,upd_same,.nil,Nat.le_refl _⟩ (fun i σ H3 _ ⟨_,_,_,s3,_⟩=>s3.seq (SqL.of x1)) ?_ ?_⟩
  · rintro i x σ H3 hx ⟨o,qs,rfl,s3,g3,hf3,hql⟩
    have hi:i<ss.length:=by have:=(List.getElem?_eq_some_iff.mp hx).1;simpa using this
    have ex:x=.str ss[i]:=by
      rw [List.getElem?_map,List.getElem?_eq_getElem hi] at hx
      exact (Option.some.inj hx).symm
    subst ex
    have hmem:ss[i]∈f.map (·.1):=hperm.mem_iff.mp (List.getElem_mem hi)
    obtain ⟨t,ht⟩:=look_in hmem
    have s13:=s1.trans s3
    obtain ⟨v,hv,htv⟩:=((hk.mono (.of s13)).dof ss[i]).2 t ht
    have hd3:=s13 _ _ hd
    have hg3:DGet H3 d (.str ss[i]) (some v):=by
      have:=DGet.k (k:=Sum.inr ss[i]) hd3
      rw [hv] at this
      exact this
    have htn:=hsz _ (look_mem ht)
    refine ⟨_,rfl,_,rfl,d,v,rfl,hg3,_,rfl,(by show 2<=sizeLine;decide),fun g hg=>?_⟩
    have s4:=same_new hg (HO.tup [.str "blank",.str ss[i]])
    have x4:upd H3 g (HO.tup [.str "blank",.str ss[i]]) g=some _:=upd_same
    generalize upd H3 g (HO.tup [.str "blank",.str ss[i]])=H4 at s4 x4 |-
    have hd4:=s4 _ _ hd3
    have hg4:DGet H4 d (.str ss[i]) (some v):=by
      have:=DGet.k (k:=Sum.inr ss[i]) hd4
      rw [hv] at this
      exact this
    refine ⟨t,.blank ss[i],htv.mono (.of s4),termAt_blank.mpr ⟨g,rfl,x4⟩,?_,fun b hb=>⟨_,rfl,ite2 (fun c=>?_) (fun c=>?_)⟩⟩
    · have hdd:=dep_dp t
      show (A.deeper _).units+t.dt.dep<cLine
      simp only at htn
      omega
    · refine ⟨_,rfl,_,rfl,_,rfl,d,v,rfl,hg4,(by show 2<=sizeLine;decide),fun g2 hg2=>?_⟩
      have s5:=same_new hg2 (HO.tup [.str ss[i],v])
      have x5:upd H4 g2 (HO.tup [.str ss[i],v]) g2=some _:=upd_same
      generalize upd H4 g2 (HO.tup [.str ss[i],v])=H5 at s5 x5 |-
      have s35:=s4.trans s5
      refine ⟨_,s35 _ _ g3,big (by omega),?_⟩
      have k6:TSame H5 (upd H5 D (HO.lst (qs++[.ref g2]))):=.lst (s35 _ _ g3)
      refine ⟨_,_,rfl,fun b' ob z=>by rw [upd_ne (ne_of_none z hD)];exact s35 _ _ (s3 _ _ z),upd_same,?_,by simp;omega⟩
      rw [List.take_succ_eq_append_getElem hi,nrm_snoc,nrm_not ht (hb.mp c)]
      exact FillAt.mono k6 ((hf3.mono (.of s35)).app ⟨g2,v,rfl,x5,htv.mono (.of s35)⟩)
    · have et:t=.blank ss[i]:=Classical.byContradiction fun z=>c (hb.mpr z)
      refine ⟨_,qs,rfl,s3.trans s4,s4 _ _ g3,?_,by omega⟩
      rw [List.take_succ_eq_append_getElem hi,nrm_snoc,nrm_own ht et,List.append_nil]
      exact hf3.mono (.of s4)
  · rintro σ H3 ⟨o,qs,rfl,s3,g3,hf3,hql⟩
    rw [zLM,List.take_of_length_le (Nat.le_refl _)] at hf3
    exact q D qs ss H3 (s1.trans s3) (s1.free hD) g3 hperm hst hf3
end
end K08
namespace K08
open PySem L2 BF
section
variable {P:Program}{w:World}{K:PySem.W.Frag}{mg:Str->Option Value}{base:Heap}{C:Addr}
def spAlike:Sp:=fun vs H Q _=>∃ (v1 v2:V) (g:Ln),vs=[v1,v2]/\TermAt H v1 g.1/\TermAt H v2 g.2/\g.1.Ok/\g.2.Ok/\g.1.nodes+g.2.nodes<=60 /\
  (∀ (a lf lL ln:Addr) (ps ls:List V) (ns:List Nat) (f:Fl) (fs:List Lf) (H':Hp),Same H H'->H' a=some (.tup [.str "alike",.ref lf,.ref lL,.ref ln])->H' lf=some (.lst ps)->FillAt H' ps f->H' lL=some (.lst ls)->LfAt H' ls fs->H' ln=some (.lst (natL ns))->Alk g f fs ns->Snd g [] fs->(∀ x∈fs,x.1.1∈parts2 g/\x.1.2∈parts2 g)->fs.length<=80000->Q (.ref a) H') /\
  (∀ (a lL:Addr) (ls:List V) (m:Nat) (z:Lf) (fs:List Lf) (H':Hp),Same H H'->H' a=some (.tup [.str "clash",.ref lL,.int (m:Nat)])->H' lL=some (.lst ls)->LfAt H' ls fs->fs[m]?=some z->Clash z.1.1 z.1.2->Snd g [] fs->(∀ x∈fs,x.1.1∈parts2 g/\x.1.2∈parts2 g)->fs.length<=80000->Q (.ref a) H') /\
  (∀ (a lL ln:Addr) (ls:List V) (ns:List Nat) (R:List Ln) (fs:List Lf) (H':Hp),Same H H'->H' a=some (.tup [.str "ring",.ref lL,.ref ln])->H' lL=some (.lst ls)->LfAt H' ls fs->H' ln=some (.lst (natL ns))->NumsAt fs ns R->RingOk R->ns.length<=1000->Snd g [] fs->(∀ x∈fs,x.1.1∈parts2 g/\x.1.2∈parts2 g)->fs.length<=80000->Q (.ref a) H')
theorem ok_alike {f0:Addr}{fd:FuncData}(F:Fun K "alike" "alike" s_alike f0 fd) (R:RG K C) (T:Bi mg) (n_Reckoning:New P w K mg base 1 C "Reckoning" ["self","one","other"] (spRkInit C)) (m_work_out:Mtd P w K mg base 7 C "work_out" ["self"] (spWork C)) (c_lines_by_word:Cal P w K mg base 5 "lines_by_word" ["reckoning","words"] (spLbw C))
    (c_blanks_of:Cal P w K mg base 2 "blanks_of" ["term"] spBlanks) (c_ends_by_word:Cal P w K mg base 1 "ends_by_word" ["lines","numbers"] spEbw) (c_settled:Cal P w K mg base 5 "settled" ["ends"] spSettled) (c_ring_of:Cal P w K mg base 4 "ring_of" ["ends","terms"] spRingOf) (c_filling_of:Cal P w K mg base 1 "filling_of" ["terms"] spFof) :
    FnOk P w K mg base CX0 8 f0 fd ["one","other"] spAlike:=by
  refine F.ok sc_alike (fun vs H Q E h=>?_) (fun cdv A outer s H vs Q E hr h=>?_)
  · obtain ⟨_,_,_,rfl,_⟩:=h
    rfl
  obtain ⟨v1,v2,g,rfl,hv1,hv2,ho1,ho2,hsz,qA,qC,qR⟩:=h
  have hun:=hr.un
  have hu:(A.deeper (PyProof.Rows.envOfC "alike" (defScope s_alike) s.heap.objs.size f0 cdv)).units+1<cLine:=by omega
  have hp1:=g.1.nodes_pos
  have hp2:=g.2.nodes_pos
  have hUl:(parts2 g).length<=60:=by unfold parts2;rw [zLA,len_rp,len_rp];exact hsz
  refine ⟨_,(pss_cons (ps_set (i:=2) sc_alike.nd rfl (Or.inl rfl) (pe_new n_Reckoning (hr.mono (by decide)) (pa_cons (pv 0) (pa_cons (pv 1) pa_nil))))
      (pss_cons (ps_expr (pe_mt0 m_work_out (hr.mono (by decide)) (pv 2)))
      (pss_cons (ps_if (pt_cmpR op_notN (pe_fld (pv 2) rfl) pe_non (nomark _)) (pss_one (ps_ret (pe_tup (pa_cons pe_str (pa_cons (pe_fld (pv 2) rfl) (pa_cons (pe_fld (pv 2) rfl) pa_nil)))))) pss_nil)
      (pss_cons (ps_set (i:=3) sc_alike.nd rfl (Or.inr rfl) (pe_cal c_lines_by_word (hr.mono (by decide)) (pa_cons (pv 2) (pa_cons (pe_op op_cat (pe_cal c_blanks_of (hr.mono (by decide)) (pa_cons (pv 0) pa_nil)) (pe_cal c_blanks_of (hr.mono (by decide)) (pa_cons (pv 1) pa_nil))) pa_nil))))
      (pss_cons (ps_set (i:=4) sc_alike.nd rfl (Or.inl rfl) (pe_cal c_ends_by_word (hr.mono (by decide)) (pa_cons (pe_fld (pv 2) rfl) (pa_cons (pv 3) pa_nil))))
      (pss_cons (ps_set (i:=5) sc_alike.nd rfl (Or.inl rfl) (pe_cal c_settled (hr.mono (by decide)) (pa_cons (pv 4) pa_nil)))
      (pss_cons (ps_if (pt_cmpR op_lt (pe_blt call_lenD T.b_len bt_len (pa_cons (pv 5) pa_nil)) (pe_blt call_lenD T.b_len bt_len (pa_cons (pv 4) pa_nil)) (nomark _)) (pss_one (ps_ret (pe_tup (pa_cons pe_str (pa_cons (pe_fld (pv 2) rfl) (pa_cons (pe_comp (Nc:=["word","numbers"]) (k:=1) (js:=[3]) ⟨rfl,rfl,rfl,rfl,rfl,rfl⟩ (pi_list (pe_cal c_ring_of (hr.mono (by decide)) (pa_cons (pv 4) (pa_cons (pv 5) pa_nil)))) (fun _ _ _ _=>pg_name (i:=0) (show (["word","numbers"]:List Str).Nodup by decide +kernel) rfl (Or.inl rfl)) (fun _ _ _ _=>pts_nil) (fun _ _ _ _=>(pe_dget hu (pv 1) (pv 0) (fun _ _=>rfl)))) pa_nil)))))) pss_nil)
      (pss_cons (ps_set (i:=6) sc_alike.nd rfl (Or.inl rfl) (pe_cal c_filling_of (hr.mono (by decide)) (pa_cons (pv 5) pa_nil)))
      (pss_one (ps_ret (pe_tup (pa_cons pe_str (pa_cons (pv 6) (pa_cons (pe_fld (pv 2) rfl) (pa_cons (pe_comp (Nc:=["pair","numbers"]) (k:=1) (js:=[3]) ⟨rfl,rfl,rfl,rfl,rfl,rfl⟩ (pi_list (pv 6)) (fun _ _ _ _=>pg_name (i:=0) (show (["pair","numbers"]:List Str).Nodup by decide +kernel) rfl (Or.inl rfl)) (fun _ _ _ _=>pts_nil) (fun _ _ _ _=>(pe_dget hu (pv 1) (pe_ix ix_tup (pv 0) pe_int (fun _ _=>rfl)) (fun _ _=>rfl)))) pa_nil))))))))))))))),?_⟩
  refine ⟨_,rfl,_,rfl,fun p dx fp fdx ndx=>?_⟩
  have k0:∀ b o,H b=some o->upd (upd H dx (HO.own p)) p (HO.ins C dx []) b=some o:=fun b o e=>by rw [upd_ne (ne_of_none e fp),upd_ne (ne_of_none e fdx)];exact e
  have s0:Same H (upd (upd H dx (HO.own p)) p (HO.ins C dx [])):=k0
  refine ⟨p,dx,v1,v2,g,rfl,upd_same,hv1.mono (.of s0),hv2.mono (.of s0),ho1,ho2,by omega,by omega,fun L O H1 fL fO kk hk=>⟨rfl,?_⟩⟩
  have s1:Same H H1:=fun b o e=>kk b o (s0 _ _ e) (ne_of_none e fp)
  have fL0:H L=none:=s0.free fL
  have fO0:H O=none:=s0.free fO
  clear kk fL fO s0 k0
  refine ⟨_,rfl,p,dx,_,rfl,hk.self,lk_none (by decide +kernel) (by decide +kernel) (by decide +kernel),p,dx,L,O,g,rfl,hk,by omega,fun H2 fs on cl f2 k2 hst=>?_⟩
  have s2:Same H H2:=fun b o e=>f2 b o (s1 _ _ e) (ne_of_none e fp) (ne_of_none e fL0) (ne_of_none e fO0)
  rcases hst with ⟨rfl,hinv⟩ | ⟨m,z,rfl,hz,hcl⟩
  rotate_left
  · refine ⟨_,rfl,p,C,dx,_,_,rfl,k2.self,R.cl,R.nc,lk_clash,rfl,_,rfl,ite_t (by simp) ?_⟩
    refine ⟨_,rfl,p,C,dx,_,_,rfl,k2.self,R.cl,R.nl,lk_lines,_,rfl,p,C,dx,_,_,rfl,k2.self,R.cl,R.nc,lk_clash,(by show 3<=sizeLine;decide),fun a fa=>?_⟩
    have t3:=same_new fa (HO.tup [.str "clash",.ref L,.int (m:Nat)])
    have k3:=k2.same t3
    obtain ⟨ls,gL,hls⟩:=k3.ls
    exact qC a L ls m z fs _ (s2.trans t3) upd_same gL hls hz hcl k3.st.snd k3.st.inU (by have:=k3.len;omega)
  refine ⟨_,rfl,p,C,dx,_,_,rfl,k2.self,R.cl,R.nc,lk_clash,rfl,_,rfl,ite_f (by simp) ?_⟩
  refine ⟨_,rfl,_,rfl,v1,g.1,rfl,hv1.mono (.of s2),by omega,fun l1 H3 s3 g3=>⟨_,rfl,v2,g.2,rfl,hv2.mono (.of (s2.trans s3)),by omega,fun l2 H4 s4 g4=>?_⟩⟩
  have hb1:=len_bl g.1
  have hb2:=len_bl g.2
  have hf1:=firsts_len g.1
  have hf2:=firsts_len g.2
  refine ⟨l1,l2,_,_,rfl,rfl,s4 _ _ g3,g4,small (by simp only [zLM];omega),fun lw flw=>?_⟩
  rw [<- List.map_append]
  have t5:=same_new flw (HO.lst ((g.1.firsts++g.2.firsts).map V.str))
  have x5:upd H4 lw (HO.lst ((g.1.firsts++g.2.firsts).map V.str)) lw=some _:=upd_same
  generalize upd H4 lw (HO.lst ((g.1.firsts++g.2.firsts).map V.str))=H5 at t5 x5 |-
  have s25:=s3.trans (s4.trans t5)
  have k5:=k2.same s25
  have nlw:lw≠L:=fun y=>by
    obtain ⟨ls,gL,_⟩:=(k2.same (s3.trans s4)).ls
    rw [y,gL] at flw
    cases flw
  have hwl:(g.1.firsts++g.2.firsts).length<=60:=by rw [zLA];omega
  have hmul:(g.1.firsts++g.2.firsts).length * (2 * (parts2 g).length)<=60 * 120:=Nat.mul_le_mul hwl (by omega)
  have hws:∀ x,x∈g.1.firsts++g.2.firsts↔x∈g.1.bl\/x∈g.2.bl:=fun x=>by rw [List.mem_append,mem_firsts,mem_firsts]
  refine ⟨p,dx,L,O,g,parts2 g,fs,on,.non,60000,lw,g.1.firsts++g.2.firsts,rfl,k5,x5,nlw,fun x hx=>blank_parts2.mpr ((hws x).mp hx),hinv.tot,by omega,by omega,fun d kvs ks H6 fs6 on6 f6 k6 hext hkeep fd0 gd hds hdom hval=>?_⟩
  have s6:Same H H6:=fun b o e=>f6 b o ((s2.trans s25) _ _ e) (ne_of_none e fp) (ne_of_none e fL0) (ne_of_none e fO0)
  have hinv6:=hkeep.inv _ hinv
  have hksl:ks.length<=60:=Nat.le_trans (nodup_len hds.nd fun x hx=>((hdom x).mp hx).1) hwl
  obtain ⟨NE,hNE⟩:∃ NE:Str->Nat×Tm,∀ x,x∈ks->∃ z k,valV kvs (Sum.inr x)=some (.int ((NE x).1:Nat))/\fs6[(NE x).1]?=some z/\z.1=(.blank x,(NE x).2)/\Rch (nxOf fs on) k (.blank x) (NE x).2:=by
    have hq:∀ x,∃ ne:Nat×Tm,x∈ks->∃ z k,valV kvs (Sum.inr x)=some (.int (ne.1:Nat))/\fs6[ne.1]?=some z/\z.1=(.blank x,ne.2)/\Rch (nxOf fs on) k (.blank x) ne.2:=fun x=>by
      by_cases c:x∈ks
      · obtain ⟨n,z,e,k,h1,h2,h3,h4⟩:=hval x c
        exact ⟨(n,e),fun _=>⟨z,k,h1,h2,h3,h4⟩⟩
      · exact ⟨(0,.num 0),fun h=>absurd h c⟩
    exact ⟨fun x=>Classical.choose (hq x),fun x=>Classical.choose_spec (hq x)⟩
  have hEU:∀ x∈ks,(NE x).2∈parts2 g:=fun x hx=>by
    obtain ⟨z,k,_,h2,h3,_⟩:=hNE x hx
    have:=(k6.st.inU z (List.mem_of_getElem? h2)).2
    rw [h3] at this
    exact this
  have hEO:EndsOk g (nxOf fs6 on6) ks (fun x=>(NE x).2):=by
    refine ⟨hds.nd,fun x=>?_,fun x hx=>?_,hEU,fun x hx=>?_⟩
    · rw [hdom x,hws x]
      exact and_congr_right fun _=>(not_congr (hkeep.non (.blank x))).symm
    · obtain ⟨z,k,_,_,_,h4⟩:=hNE x hx
      exact hkeep.rch _ _ _ h4
    · cases y:nxOf fs6 on6 (.blank x) with
      | none=>exact absurd y hx
      | some u=>exact blank_parts2.mp (nx_inU k6.st y).1
  obtain ⟨ls,gL,hls⟩:=k6.ls
  refine ⟨_,rfl,p,C,dx,_,_,rfl,k6.self,R.cl,R.nl,lk_lines,_,rfl,L,ls,fs6,d,kvs,ks,fun x=>(NE x).2,rfl,gL,hls,gd,hds,fun x hx=>?_,by omega,fun de ke H7 s7 fde gde hke=>?_⟩
  · obtain ⟨z,k,h1,h2,h3,_⟩:=hNE x hx
    exact ⟨_,z,h1,h2,by rw [h3]⟩
  have heA:EndsAt H7 de ke (endsL ks fun x=>(NE x).2):=by
    refine ⟨gde,hke,by rw [endsL_keys];exact hds.nd,fun q hq=>?_,by simp [endsL];omega⟩
    obtain ⟨x,hx,rfl⟩:=List.mem_map.mp hq
    exact (k6.ok _ (hEU x hx)).2
  refine ⟨_,rfl,de,ke,_,rfl,heA,fun dt kt f H8 s8 fdt gdt hkt hst hrdy=>?_⟩
  have he8:=heA.same s8
  have s68:=s7.trans s8
  have k8:=k6.same s68
  have gd8:=s68 _ _ gd
  have nedt:de≠dt:=ne_of_none gde fdt
  have hel:(endsL ks fun x=>(NE x).2).length=ks.length:=by simp [endsL]
  have hkel:=he8.kv.len
  have hktl:=hkt.len
  have hin:=hst.inv
  have hfk:∀ x∈f.map (·.1),x∈ks:=fun x hx=>by
    obtain ⟨q,hq,rfl⟩:=List.mem_map.mp hx
    obtain ⟨e,h1,_⟩:=hin.2 q hq
    rw [look_endsL] at h1
    split at h1
    · rename_i c;exact c
    · cases h1
  obtain ⟨ls8,gL8,hls8⟩:=k8.ls
  have hlenf:=k8.len
  refine ⟨_,rfl,dt,kt,rfl,gdt,_,rfl,de,ke,rfl,he8.at',_,_,rfl,rfl,_,rfl,ite2 (fun c=>?_) (fun c=>?_)⟩
  · have c':(kt.length:Int)<(ke.length:Int):=of_decide_eq_true c
    have hex:∃ q∈endsL ks (fun x=>(NE x).2),look f q.1=none:=by
      refine Classical.byContradiction fun hno=>?_
      have:ks.length<=(f.map (·.1)).length:=nodup_len hds.nd fun x hx=>by
        refine look_in'.mp fun y=>hno ⟨(x,(NE x).2),List.mem_map.mpr ⟨x,hx,rfl⟩,y⟩
      rw [zLM] at this
      omega
    refine ⟨_,rfl,p,C,dx,_,_,rfl,k8.self,R.cl,R.nl,lk_lines,_,rfl,_,rfl,de,ke,_,dt,kt,f,rfl,he8,gdt,hkt,nedt,hrdy,hex,fun lr ws H9 s9 flr glr hring hwsl=>⟨lr,rfl,⟨_,SqL.of glr⟩,fun D fD _ _ _ _=>?_⟩⟩
    have gd9:=s9 _ _ gd8
    have hws9:∀ x∈ws,x∈ks:=fun x hx=>by
      obtain ⟨i,hi,rfl⟩:=List.mem_iff_getElem.mp hx
      obtain ⟨e,h1,_⟩:=hring.2 i hi
      rw [look_endsL] at h1
      split at h1
      · rename_i c;exact c
      · cases h1
    refine comp_listN (K:=K) (a:=lr) (xs:=ws.map V.str) (fun n σ HX=>∃ (o:Option V),σ=[o,some (.ref d)]/\Same H9 HX/\HX D=some (.lst (natL ((ws.take n).map fun x=>(NE x).1)))) ⟨none,rfl,same_new fD _,upd_same⟩ (fun n σ HX _ ⟨_,_,sX,_⟩=>sX.seq (SqL.of glr)) ?_ ?_
    · rintro n y σ HX hy ⟨o,rfl,sX,gD⟩
      have hi:n<ws.length:=by have:=(List.getElem?_eq_some_iff.mp hy).1;simpa using this
      have ey:y=.str ws[n]:=by
        rw [List.getElem?_map,List.getElem?_eq_getElem hi] at hy
        exact (Option.some.inj hy).symm
      subst ey
      obtain ⟨z,k,h1,_⟩:=hNE _ (hws9 _ (List.getElem_mem hi))
      have hget:DGet HX d (.str ws[n]) (some (.int ((NE ws[n]).1:Nat))):=by
        have:=DGet.k (k:=Sum.inr ws[n]) (sX _ _ gd9)
        rw [h1] at this
        exact this
      refine ⟨_,rfl,_,rfl,d,_,rfl,hget,_,gD,big (by simp [natL];omega),?_⟩
      refine ⟨_,rfl,fun b ob z=>by rw [upd_ne (ne_of_none z fD)];exact sX _ _ z,?_⟩
      rw [upd_same,List.take_succ_eq_append_getElem hi]
      simp only [natL,List.map_append,List.map_cons,List.map_nil]
    · rintro σ HX ⟨o,rfl,sX,gD⟩
      rw [zLM,List.take_of_length_le (Nat.le_refl _)] at gD
      refine ⟨(by show 3<=sizeLine;decide),fun a fa=>?_⟩
      have t9:=same_new fa (HO.tup [.str "ring",.ref L,.ref D])
      have s8Z:=s9.trans (sX.trans t9)
      refine qR a L D ls8 (ws.map fun x=>(NE x).1) (ws.map fun x=>(.blank x,(NE x).2)) fs6 _ (s6.trans (s68.trans s8Z)) upd_same (s8Z _ _ gL8) (LfAt.mono (.of s8Z) hls8) (t9 _ _ gD) ?_ (ring_of_words hEO hring.1 hring.2) (by rw [zLM];exact hwsl) k8.st.snd k8.st.inU (by omega)
      have:∀ l:List Str,(∀ x∈l,x∈ks)->NumsAt fs6 (l.map fun x=>(NE x).1) (l.map fun x=>(.blank x,(NE x).2)):=fun l hl=>by
        induction l with
        | nil=>exact .nil
        | cons x r ih =>
          obtain ⟨z,k,_,h2,h3,_⟩:=hNE x (hl x (by simp))
          exact .cons ⟨z,h2,h3⟩ (ih fun y hy=>hl y (by simp [hy]))
      exact this ws hws9
  · have c':¬ (kt.length:Int)<(ke.length:Int):=fun z=>c (decide_eq_true z)
    have hall:∀ x∈ks,x∈f.map (·.1):=fun x hx=>Classical.byContradiction fun hno=>by
      have hnd:(x::f.map (·.1)).Nodup:=List.nodup_cons.mpr ⟨hno,hin.1⟩
      have:=nodup_len hnd (m:=ks) fun y hy=>by
        rcases List.mem_cons.mp hy with z | z
        · rw [z];exact hx
        · exact hfk y z
      simp only [zLC,zLM] at this
      omega
    have hcov:=hEO.cov hst hall
    have hfl:f.length<=60:=by
      have:=nodup_len hin.1 hfk
      rw [zLM] at this
      omega
    refine ⟨_,rfl,dt,kt,f,rfl,gdt,hkt,hin.1,by omega,fun q hq=>?_,fun lf ps ss H9 s9 flf glf hperm hrise hfill=>?_⟩
    · obtain ⟨e,h1,h2,_⟩:=hin.2 q hq
      have hx:=hfk q.1 (List.mem_map.mpr ⟨q,hq,rfl⟩)
      rw [look_endsL,if_pos hx] at h1
      cases h1
      have:=hcov.deep (hEU _ hx)
      rw [h2,fill_sub]
      omega
    have hA:=alk_of (num:=fun x=>(NE x).1) k6.st hinv6 hEO (fun x hx=>by
      obtain ⟨z,k,_,h2,h3,_⟩:=hNE x hx
      exact ⟨z,h2,h3⟩) hst hall hperm hrise
    have hfil:∀ q∈nrm f ss,q.1∈ks:=fun q hq=>hfk _ (hperm.mem_iff.mp (nrm_mem hq).1)
    generalize nrm f ss=ff at hfill hA hfil
    have hpl:=hfill.len
    have hff:ff.length<=60:=by
      have hnd:(ff.map (·.1)).Nodup:=by
        rw [List.nodup_iff_pairwise_ne,List.pairwise_map]
        exact hA.rise.imp fun h e=>by rw [e] at h;exact absurd h (List.lt_irrefl _)
      have:=nodup_len hnd (m:=ks) fun x hx=>by
        obtain ⟨q,hq,rfl⟩:=List.mem_map.mp hx
        exact hfil q hq
      rw [zLM] at this
      omega
    have gd9:=s9 _ _ gd8
    refine ⟨_,rfl,_,rfl,p,C,dx,_,_,rfl,(k8.same s9).self,R.cl,R.nl,lk_lines,_,rfl,lf,rfl,⟨_,SqL.of glf⟩,fun D fD _ _ _ _=>?_⟩
    refine comp_listN (K:=K) (a:=lf) (xs:=ps) (fun n σ HX=>∃ (o:Option V),σ=[o,some (.ref d)]/\Same H9 HX/\HX D=some (.lst (natL ((ff.take n).map fun q=>(NE q.1).1)))) ⟨none,rfl,same_new fD _,upd_same⟩ (fun n σ HX _ ⟨_,_,sX,_⟩=>sX.seq (SqL.of glf)) ?_ ?_
    · rintro n y σ HX hy ⟨o,rfl,sX,gD⟩
      obtain ⟨hi,ey⟩:=List.getElem?_eq_some_iff.mp hy
      have hi':n<ff.length:=by omega
      obtain ⟨b,v,eb,hb0,_⟩:=hfill.get n hi hi'
      rw [ey] at eb
      subst eb
      obtain ⟨z,k,h1,_⟩:=hNE _ (hfil _ (List.getElem_mem hi'))
      have hget:DGet HX d (.str ff[n].1) (some (.int ((NE ff[n].1).1:Nat))):=by
        have:=DGet.k (k:=Sum.inr ff[n].1) (sX _ _ gd9)
        rw [h1] at this
        exact this
      refine ⟨_,rfl,_,rfl,_,_,_,_,rfl,rfl,SqT.of (sX _ _ hb0),at0',d,_,rfl,hget,_,gD,big (by simp [natL];omega),?_⟩
      refine ⟨_,rfl,fun b ob z=>by rw [upd_ne (ne_of_none z fD)];exact sX _ _ z,?_⟩
      rw [upd_same,List.take_succ_eq_append_getElem hi']
      simp only [natL,List.map_append,List.map_cons,List.map_nil]
    · rintro σ HX ⟨o,rfl,sX,gD⟩
      rw [List.take_of_length_le (by omega)] at gD
      refine ⟨(by show 4<=sizeLine;decide),fun a fa=>?_⟩
      have t9:=same_new fa (HO.tup [.str "alike",.ref lf,.ref L,.ref D])
      have s9Z:=sX.trans t9
      have s8Z:=s9.trans s9Z
      exact qA a lf L D ps ls8 _ ff fs6 _ (s6.trans (s68.trans s8Z)) upd_same (s9Z _ _ glf) (hfill.mono (.of s9Z)) (s8Z _ _ gL8) (LfAt.mono (.of s8Z) hls8) (t9 _ _ gD) hA k8.st.snd k8.st.inU (by omega)
end
end K08
namespace K08
open PySem L2 BF
section
variable {P:Program}{w:World}{K:PySem.W.Frag}{mg:Str->Option Value}{base:Heap}
def spCalled:Sp:=fun vs H Q _=>∃ k:Nat,vs=[.int (k:Nat)]/\∀ x:Str,x.cps.toList=callL k->Q (.str x) H
theorem alpha_nat (m:Nat) (h1:m<26):atI (Str.ofString "abcdefghijklmnopqrstuvwxyz").cps.toList ((m:Nat):Int)=some (97+m):=atI_nat (alpha_at m h1)
theorem ok_called {f:Addr}{fd:FuncData}(F:Fun K "_law_called" "_law_called" s_law_called f fd) (T:Bi mg):FnOk P w K mg base CX0 1 f fd ["_law_k"] spCalled:=by
  refine F.ok sc_law_called (fun vs H Q E h=>?_) (fun cdv A outer s H vs Q E hr h=>?_)
  · obtain ⟨_,rfl,_⟩:=h
    rfl
  obtain ⟨k,rfl,q⟩:=h
  have e1:atI (Str.ofString "abcdefghijklmnopqrstuvwxyz").cps.toList ((k:Int) % 3)=some (97+k % 3):=alpha_nat (k % 3) (by omega)
  have e2:atI (Str.ofString "abcdefghijklmnopqrstuvwxyz").cps.toList ((k:Int) / 3 % 3)=some (97+k / 3 % 3):=alpha_nat (k / 3 % 3) (by omega)
  have e3:atI (Str.ofString "abcdefghijklmnopqrstuvwxyz").cps.toList ((k:Int) / 9 % 3)=some (97+k / 9 % 3):=alpha_nat (k / 9 % 3) (by omega)
  have e4:atI (Str.ofString "abcdefghijklmnopqrstuvwxyz").cps.toList ((k:Int) / 27 % 26)=some (97+k / 27 % 26):=alpha_nat (k / 27 % 26) (by omega)
  apply let_ts;intro T1
  apply let_ts;intro T2
  apply let_ts;intro T3
  refine ⟨_,(pss_cons (ps_set (i:=1) sc_law_called.nd rfl (Or.inl rfl) pe_str) (pss_as T3 (pss_cons (ps_set (i:=2) sc_law_called.nd rfl (Or.inl rfl) (pe_op op_add_str (pe_op op_add_str (pe_ix ix_str (pv 1) (pe_op op_mod (pv 0) pe_int) (fun _ _=>rfl)) (pe_ix ix_str (pv 1) (pe_op op_mod (pe_op op_fdiv (pv 0) pe_int) pe_int) (fun _ _=>rfl))) (pe_ix ix_str (pv 1) (pe_op op_mod (pe_op op_fdiv (pv 0) pe_int) pe_int) (fun _ _=>rfl)))) (pss_as T2 (pss_cons (ps_if (pt_cmpR op_gt (pv 0) pe_int (nomark _)) (pss_as T1 (pss_one (ps_set (i:=2) sc_law_called.nd rfl (Or.inl rfl) (pe_op op_add_str (pv 2) (pe_ix ix_str (pv 1) (pe_op op_mod (pe_op op_fdiv (pv 0) pe_int) pe_int) (fun _ _=>rfl)))))) pss_nil) (pss_one (ps_ret (pv 2)))))))),?_⟩
  refine ⟨_,rfl,_,rfl,_,_,rfl,rfl,(show (0:Int)<_ by decide),_,_,_,rfl,rfl,(by decide +kernel),e1,?_⟩
  refine ⟨_,rfl,_,rfl,_,_,rfl,rfl,⟨by decide,by decide⟩,_,_,rfl,rfl,(show (0:Int)<_ by decide),_,_,_,rfl,rfl,(by decide +kernel),e2,_,_,rfl,rfl,?_,?_⟩
  · rw [len_cps,len_cps]
    exact small (by simp)
  refine ⟨_,rfl,_,rfl,_,_,rfl,rfl,⟨by decide,by decide⟩,_,_,rfl,rfl,(show (0:Int)<_ by decide),_,_,_,rfl,rfl,(by decide +kernel),e3,_,_,rfl,rfl,?_,?_⟩
  · rw [len_cps,len_cps,cps_append]
    exact small (by simp)
  refine ⟨_,rfl,_,_,rfl,rfl,_,rfl,ite2 (fun c=>?_) (fun c=>⟨_,rfl,q _ ?_⟩)⟩
  · have c':(k:Int)>26:=of_decide_eq_true c
    refine ⟨_,rfl,_,rfl,_,rfl,_,_,rfl,rfl,⟨by decide,by decide⟩,_,_,rfl,rfl,(show (0:Int)<_ by decide),_,_,_,rfl,rfl,(by decide +kernel),e4,_,_,rfl,rfl,?_,⟨_,rfl,q _ ?_⟩⟩
    · rw [len_cps,len_cps,cps_append,cps_append]
      exact small (by simp)
    · rw [cps_append,cps_append,cps_append]
      unfold callL
      rw [if_pos (by omega)]
      rfl
  · have c':¬ (k:Int)>26:=of_decide_eq_false (Bool.eq_false_iff.mpr c)
    rw [cps_append,cps_append]
    unfold callL
    rw [if_neg (by omega)]
    rfl
end
section
variable {P:Program}{w:World}{K:PySem.W.Frag}{mg:Str->Option Value}{base:Heap}
def spHidden (K:PySem.W.Frag):Sp:=fun vs H Q _=>∃ (a:Addr) (ns:List Int) (m:Nat),vs=[.ref a,.int (m:Nat)]/\SqL K H a (ns.map V.int)/\ns.length<=63/\0<m /\
  ∀ (r lf lp:Addr) (x0 x1 x2:V) (d:Tri) (seen:List Tm) (pv:List V) (f:Fl) (H':Hp),Same H H'->H' r=some (.tup [.ref lf,.ref lp])->H' lf=some (.lst [x0,x1,x2])->TermAt H' x0 d.1->TermAt H' x1 d.2.1->TermAt H' x2 d.2.2 ->
    HidT m seen d->d.2.2.nodes<=ns.length+2->H' lp=some (.lst pv)->FillAt H' pv f->f.map (·.2)=seen->(∀ i p,f[i]?=some p->p.1.cps.toList=callL i)->seen.length<=ns.length->(∀ t∈seen,t.Ok/\t.nodes<=ns.length)->Q (.ref r) H'
theorem ok_hidden {f0:Addr}{fd:FuncData}(F:Fun K "_law_hidden" "_law_hidden" s_law_hidden f0 fd) (T:Bi mg) (c__law_many_parts:Cal P w K mg base 1 "_law_many_parts" ["_law_cell","_law_count"] spMany)
    (c__law_leaf:Cal P w K mg base 2 "_law_leaf" ["_law_cell"] spLeaf) (c__law_head:Cal P w K mg base 2 "_law_head" ["_law_cell"] spHead) (c__law_called:Cal P w K mg base 1 "_law_called" ["_law_k"] spCalled) :
    FnOk P w K mg base CX0 3 f0 fd ["_law_cells","_law_many"] (spHidden K):=by
  refine F.ok sc_law_hidden (fun vs H Q E h=>?_) (fun cdv A outer s H vs Q E hr h=>?_)
  · obtain ⟨a,ns,m,rfl,_⟩:=h
    rfl
  obtain ⟨a,ns,m,rfl,hS,hlen,hm,q⟩:=h
  have hun:=hr.un
  obtain ⟨_,_,_,_,wrow,wend,_,_,_⟩:=Wd.lits
  apply let_ts;intro T1
  apply let_ts;intro T2
  apply let_ts;intro T3
  apply let_ts;intro T4
  apply let_ts;intro T5
  apply let_ts;intro T6
  apply let_ts;intro T7
  apply let_ts;intro T8
  apply let_ts;intro T9
  apply let_ts;intro T10
  apply let_ts;intro T11
  apply let_ts;intro T12
  apply let_ts;intro T13
  apply let_ts;intro T14
  apply let_ts;intro T15
  apply let_ts;intro T16
  apply let_ts;intro T17
  apply let_ts;intro T18
  apply let_ts;intro T19
  apply let_ts;intro T20
  apply let_ts;intro T21
  apply let_ts;intro T22
  refine ⟨_,(pss_cons (ps_set (i:=2) sc_law_hidden.nd rfl (Or.inl rfl) (pe_lst pa_nil)) (pss_as T22 (pss_cons (ps_set (i:=3) sc_law_hidden.nd rfl (Or.inr rfl) (pe_lst pa_nil)) (pss_as T21 (pss_cons (ps_for PassesOwn.never rfl (pi_list (pv 0)) (pg_name (i:=4) sc_law_hidden.nd rfl (Or.inl rfl)) (pss_as T16 (pss_cons (ps_set (i:=7) sc_law_hidden.nd rfl (Or.inl rfl) (pe_cal c__law_many_parts (hr.mono (by decide)) (pa_cons (pv 4) (pa_cons (pe_blt call_len_seq T.b_len bt_len (pa_cons (pv 2) pa_nil)) pa_nil)))) (pss_as T15 (pss_cons (ps_set (i:=8) sc_law_hidden.nd rfl (Or.inl rfl) (pe_cal c__law_leaf (hr.mono (by decide)) (pa_cons (pe_op op_fdiv (pv 4) pe_int) pa_nil))) (pss_as T14 (pss_cons (ps_set (i:=9) sc_law_hidden.nd rfl (Or.inl rfl) (pe_lst (pa_cons (pv 8) (pa_cons (pv 8) (pa_cons (pv 8) pa_nil))))) (pss_as T13 (pss_cons (ps_if (pw_and (pt_cmpR op_gt (pv 7) pe_int (nomark _)) (pw_and1 (pt_cmpR op_le (pv 7) (pe_blt call_len_seq T.b_len bt_len (pa_cons (pv 2) pa_nil)) (nomark _)))).pt (pss_as T5 (pss_cons (ps_set (i:=12) sc_law_hidden.nd rfl (Or.inl rfl) (pe_op op_sub (pe_blt call_len_seq T.b_len bt_len (pa_cons (pv 2) pa_nil)) (pv 7))) (pss_as T4 (pss_cons (ps_set (i:=9) sc_law_hidden.nd rfl (Or.inl rfl) (pe_lst pa_nil)) (pss_as T3 (pss_cons (ps_for PassesOwn.never rfl (pi_range1 rfl T.b_range (pa_cons pe_int pa_nil)) (pg_name (i:=6) sc_law_hidden.nd rfl (Or.inr rfl)) (pss_as T2 (pss_cons (ps_compset (i:=13) (Nc:=["_law_one","_law_k" ]) (k:=1) (js:=[6]) ⟨rfl,rfl,rfl,rfl,rfl,rfl⟩ sc_law_hidden.nd rfl (Or.inl rfl) (pi_list (pe_slice sl_list (pv 2) (po_some (pv 12)) po_none)) (fun _ _ _ _=>pg_name (i:=0) (show (["_law_one","_law_k" ]:List Str).Nodup by decide +kernel) rfl (Or.inl rfl)) (fun _ _ _ _=>pts_nil) (fun _ _ _ _=>(pe_ix ix_list (pv 0) (pv 1) (fun _ _=>rfl)))) (pss_as T1 (pss_one (ps_expr (pe_bm PySem.F.plainAttrs_list PySem.F.slot_list_append PySem.F.type_list_append mt_append (pv 9) (pa_cons (pe_tup (pa_cons pe_str (pa_cons (pe_cal c__law_head (hr.mono (by decide)) (pa_cons (pe_op op_fdiv (pv 4) pe_int) pa_nil)) (pa_cons (pe_bty call_tuple_of T.b_tuple bt_tuple (pa_cons (pv 13) pa_nil)) pa_nil)))) pa_nil)))))))) (pss_one (ps_set (i:=2) sc_law_hidden.nd rfl (Or.inl rfl) (pe_slice sl_list (pv 2) po_none (po_some (pv 12))))))))))) pss_nil) (pss_as T12 (pss_cons (ps_if (pt_cmpR op_notInD (pe_ix ix_list (pv 9) pe_int (fun _ _=>rfl)) (pv 3) (by with_unfolding_all rfl)) (pss_as T6 (pss_one (ps_expr (pe_bm PySem.F.plainAttrs_list PySem.F.slot_list_append PySem.F.type_list_append mt_append (pv 3) (pa_cons (pe_ix ix_list (pv 9) pe_int (fun _ _=>rfl)) pa_nil))))) pss_nil) (pss_as T11 (pss_cons (ps_set (i:=10) sc_law_hidden.nd rfl (Or.inl rfl) (pe_tup (pa_cons pe_str (pa_cons (pe_cal c__law_called (hr.mono (by decide)) (pa_cons (pe_op op_mod (pe_bm PySem.F.plainAttrs_list PySem.F.slot_list_index PySem.F.type_list_index mt_index (pv 3) (pa_cons (pe_ix ix_list (pv 9) pe_int (fun _ _=>rfl)) pa_nil)) (pv 1)) pa_nil)) pa_nil)))) (pss_as T10 (pss_cons (ps_set (i:=11) sc_law_hidden.nd rfl (Or.inl rfl) (pe_op op_mod (pe_op op_fdiv (pv 4) pe_int) pe_int)) (pss_as T9 (pss_cons (ps_if (pw_or (pt_cmpR op_eq (pv 11) pe_int (nomark _)) (pw_or1 (pt_cmpR op_eq (pv 11) pe_int (nomark _)))).pt (pss_one (ps_asg (pv 10) (pg_sub (pv 9) pe_int set_list))) pss_nil) (pss_as T8 (pss_cons (ps_if (pw_or (pt_cmpR op_eq (pv 11) pe_int (nomark _)) (pw_or1 (pt_cmpR op_eq (pv 11) pe_int (nomark _)))).pt (pss_one (ps_asg (pv 10) (pg_sub (pv 9) pe_int set_list))) pss_nil) (pss_as T7 (pss_one (ps_expr (pe_bm PySem.F.plainAttrs_list PySem.F.slot_list_append PySem.F.type_list_append mt_append (pv 2) (pa_cons (pv 9) pa_nil)))))))))))))))))))))))) (pss_as T20 (pss_cons (ps_set (i:=5) sc_law_hidden.nd rfl (Or.inl rfl) (pe_lst pa_nil)) (pss_as T19 (pss_cons (ps_for PassesOwn.never rfl (pi_range1 rfl T.b_range (pa_cons pe_int pa_nil)) (pg_name (i:=6) sc_law_hidden.nd rfl (Or.inr rfl)) (pss_as T17 (pss_one (ps_expr (pe_bm PySem.F.plainAttrs_list PySem.F.slot_list_append PySem.F.type_list_append mt_append (pv 5) (pa_cons (pe_tup (pa_cons pe_str (pa_cons pe_str (pa_cons (pe_bty call_tuple_of T.b_tuple bt_tuple (pa_cons (pe_op op_cat (pe_comp (Nc:=["_law_one","_law_k" ]) (k:=1) (js:=[6]) ⟨rfl,rfl,rfl,rfl,rfl,rfl⟩ (pi_list (pv 2)) (fun _ _ _ _=>pg_name (i:=0) (show (["_law_one","_law_k" ]:List Str).Nodup by decide +kernel) rfl (Or.inl rfl)) (fun _ _ _ _=>pts_nil) (fun _ _ _ _=>(pe_ix ix_list (pv 0) (pv 1) (fun _ _=>rfl)))) (pe_lst (pa_cons (pe_tup (pa_cons pe_str (pa_cons pe_str pa_nil))) pa_nil))) pa_nil)) pa_nil)))) pa_nil)))))) (pss_as T18 (pss_one (ps_ret (pe_tup (pa_cons (pv 5) (pa_cons (pe_comp (Nc:=["_law_k","_law_seen" ]) (k:=1) (js:=[3]) ⟨rfl,rfl,rfl,rfl,rfl,rfl⟩ (pi_range1 rfl T.b_range (pa_cons (pe_blt call_len_seq T.b_len bt_len (pa_cons (pv 3) pa_nil)) pa_nil)) (fun _ _ _ _=>pg_name (i:=0) (show (["_law_k","_law_seen" ]:List Str).Nodup by decide +kernel) rfl (Or.inl rfl)) (fun _ _ _ _=>pts_nil) (fun _ _ _ _=>(pe_tup (pa_cons (pe_cal c__law_called (hr.mono (by decide)) (pa_cons (pv 0) pa_nil)) (pa_cons (pe_ix ix_list (pv 1) (pv 0) (fun _ _=>rfl)) pa_nil))))) pa_nil))))))))))))))),?_⟩
  refine ⟨(by show 0<=sizeLine;decide),fun p0 hp0=>?_⟩
  have s1:=same_new hp0 (HO.lst [])
  have x1:upd H p0 (HO.lst []) p0=some _:=upd_same
  generalize upd H p0 (HO.lst [])=H1 at s1 x1 |-
  refine ⟨(by show 0<=sizeLine;decide),fun sn hsn1=>?_⟩
  have s2:=same_new hsn1 (HO.lst [])
  have x2:upd H1 sn (HO.lst []) sn=some _:=upd_same
  have n12:p0≠sn:=ne_of_none x1 hsn1
  have hsn:H sn=none:=s1.free hsn1
  generalize upd H1 sn (HO.lst [])=H2 at s2 x2 |-
  refine ⟨_,rfl,a,rfl,⟨_,(s1.trans s2).seq hS⟩,let I1:Nat->L2.St->Hp->Prop:=(fun i σ H3=>∃ (p:Addr) (us ss:List V) (ds:List Tri) (seen:List Tm) (o4 o6 o7 o8 o9 o10 o11 o12 o13:Option V),
    σ = [some (.ref a),some (.int (m:Nat)),some (.ref p),some (.ref sn),o4,none,o6,o7,o8,o9,o10,o11,o12,o13]/\Same H H3/\H p=none/\p≠sn/\H3 p=some (.lst us)/\H3 sn=some (.lst ss)/\TermsAt H3 ss seen/\PileAt H3 us ds/\Apart p us/\Apart sn us /\
      (∀ d∈ds,HidT m seen d)/\triN ds<=i/\seen.length<=i/\(∀ t∈seen,t.Ok/\t.nodes<=i)/\i<=ns.length);for_list (K:=K) (a:=a) (xs:=ns.map V.int) I1
    ⟨p0,[],[],[],[],none,none,none,none,none,none,none,none,none,rfl,s1.trans s2,hp0,n12,s2 _ _ x1,x2,TermsAt.nil,.nil,(fun _ z=>nomatch z),(fun _ z=>nomatch z),(fun _ z=>nomatch z),Nat.le_refl _,Nat.le_refl _,(fun _ z=>nomatch z),Nat.zero_le _⟩
    (fun i σ H3 _ ⟨_,_,_,_,_,_,_,_,_,_,_,_,_,_,_,s3,_⟩=>s3.seq hS) ?_ ?_⟩
  · rintro i y σ H3 hi ⟨p,us,ss,ds,seen,o4,o6,o7,o8,o9,o10,o11,o12,o13,rfl,s3,fp,npn,gp,gs,hss,hpl,ap,as,hds,htn,hsl,hso,hil⟩
    have hil':i<(ns.map V.int).length:=(List.getElem?_eq_some_iff.mp hi).1
    rw [zLM] at hil'
    obtain ⟨c,rfl⟩:∃ c,y=V.int c:=by
      rw [List.getElem?_map] at hi
      cases e:ns[i]? with
      | none=>rw [e] at hi;cases hi
      | some z=>rw [e] at hi;exact ⟨z,(Option.some.inj hi).symm⟩
    have hpl_len:us.length=ds.length:=Paired.length hpl
    have htl:=triN_len ds
    refine ⟨_,rfl,_,rfl,p,us,rfl,.inl (SqL.of gp),c,us.length,rfl,fun k H4 s4 hk=>?_⟩
    have hk0:0<=k:=by omega
    refine ⟨_,rfl,_,_,rfl,rfl,⟨by decide,by decide⟩,_,rfl,fun v0 t0 H5 s5 hv0 hok0 hn0 hlf=>?_⟩
    have s35:=s4.trans s5
    refine ⟨_,rfl,_,rfl,_,rfl,(by show 3<=sizeLine;decide),fun tr0 htr0=>?_⟩
    have s6:=same_new htr0 (HO.lst [v0,v0,v0])
    have x6:upd H5 tr0 (HO.lst [v0,v0,v0]) tr0=some _:=upd_same
    have ft0:H3 tr0=none:=s35.free htr0
    generalize upd H5 tr0 (HO.lst [v0,v0,v0])=H6 at s6 x6 |-
    have s36:=s35.trans s6
    have hv6:TermAt H6 v0 t0:=hv0.mono (.of s6)
    show Ends.nx _ _ _
    with_reducible show tSeq _ _ _ _ _
    refine let I2:L2.St->Hp->Prop:=(fun σ H7=>∃ (p:Addr) (us:List V) (ds:List Tri) (tr:Addr) (x0 x1 x2:V) (d:Tri) (o6 o12 o13:Option V),
      σ=[some (.ref a),some (.int (m:Nat)),some (.ref p),some (.ref sn),some (.int c),none,o6,some (.int k),some v0,some (.ref tr),o10,o11,o12,o13]/\Mid H m p sn tr us ss ds seen x0 x1 x2 d H7/\H p=none/\p≠sn/\BF.Apart p us/\BF.Apart sn us /\
      H tr=none/\tr≠p/\tr≠sn/\BF.Apart tr us/\(∀ d∈ds,HidT m seen d)/\triN ds+d.2.2.nodes<=i+1);tSeq_cut I2 ?_ (fun key=>?_)
    rotate_left
    · have gp6:=s36 _ _ gp
      have gs6:=s36 _ _ gs
      have hss6:=hss.mono (.of s36)
      have hpl6:=hpl.same s36
      have plain:∀ p_,p_=p->∃ (p:Addr) (us:List V) (ds:List Tri) (tr:Addr) (x0 x1 x2:V) (d:Tri) (o6' o12' o13':Option V),
          [some (.ref a),some (.int (m:Nat)),some (.ref p_),some (.ref sn),some (.int c),none,o6,some (.int k),some v0,some (.ref tr0),o10,o11,o12,o13]=[some (.ref a),some (.int (m:Nat)),some (.ref p),some (.ref sn),some (.int c),none,o6',some (.int k),some v0,some (.ref tr),o10,o11,o12',o13']/\Mid H m p sn tr us ss ds seen x0 x1 x2 d H6/\H p=none/\p≠sn/\BF.Apart p us/\BF.Apart sn us /\
          H tr=none/\tr≠p/\tr≠sn/\BF.Apart tr us/\(∀ d∈ds,HidT m seen d)/\triN ds+d.2.2.nodes<=i+1:=fun _ e=>e ▸
        ⟨p,us,ds,tr0,v0,v0,v0,(t0,t0,t0),o6,o12,o13,rfl,⟨s3.trans s36,gp6,gs6,hss6,hpl6,x6,hv6,hv6,hv6,HidT.leaf hlf hok0⟩,fp,npn,ap,as,s3.free ft0,(ne_of_none gp ft0).symm,(ne_of_none gs ft0).symm,hpl.apart ft0,hds,by show triN ds+t0.nodes<=i+1;omega⟩
      refine ⟨_,rfl,_,_,rfl,rfl,_,rfl,ite2 (fun c1=>⟨_,rfl,_,rfl,p,us,rfl,.inl (SqL.of gp6),_,_,rfl,rfl,_,rfl,ite2 (fun c2=>?_) (fun c2=>key _ _ (plain _ rfl))⟩) (fun c1=>iteF (key _ _ (plain _ rfl)))⟩
      have c1':k>0:=of_decide_eq_true c1
      have c2':k<=us.length:=of_decide_eq_true c2
      have j0:0<=(us.length:Int) - k:=by omega
      have j1:(us.length:Int) - k<=us.length:=by omega
      obtain ⟨st,est,hst⟩:∃ st:Nat,((us.length:Int) - k).toNat=st/\st<us.length:=⟨_,rfl,by omega⟩
      refine ⟨_,rfl,p,us,rfl,.inl (SqL.of gp6),_,rfl,_,_,rfl,rfl,?_⟩
      refine ⟨(by show 0<=sizeLine;decide),fun tr ftr=>?_⟩
      have s7:=same_new ftr (HO.lst [])
      have x7:upd H6 tr (HO.lst []) tr=some _:=upd_same
      generalize upd H6 tr (HO.lst [])=H7 at s7 x7 |-
      refine ⟨3,rfl,by decide,by decide,let I3:Nat->L2.St->Hp->Prop:=(fun j σ H8=>∃ (vs:List V) (wh:Str) (o6 o13:Option V),σ=[some (.ref a),some (.int (m:Nat)),some (.ref p),some (.ref sn),some (.int c),none,o6,some (.int k),some v0,some (.ref tr),o10,o11,some (.int ((us.length:Int) - k)),o13]/\Same H6 H8/\H8 tr=some (.lst vs)/\Wd wh/\(j=0\/HW (c / 6) wh)/\TermsAt H8 vs ((List.range j).map fun n=>sel n (thT wh (ds.drop st))));for_range (lo:=0) (n:=3) I3
        ⟨[],"row",o6,o13,rfl,s7,x7,wrow,.inl rfl,TermsAt.nil⟩ ?_ ?_⟩
      · rintro j σ H8 hj ⟨vs,wh,o6',o13',rfl,s8,g8,hwh,hwj,hvs⟩
        have e0:(0:Int)+(j:Int)=((j:Nat):Int):=by omega
        rw [e0]
        refine ⟨_,rfl,_,rfl,_,rfl,p,us,rfl,SqL.of (s8 _ _ gp6),fun l fl=>?_⟩
        rw [cut_from us _ j0 j1,est]
        have s9:=same_new fl (HO.lst (us.drop st))
        have x9:upd H8 l (HO.lst (us.drop st)) l=some _:=upd_same
        generalize upd H8 l (HO.lst (us.drop st))=H9 at s9 x9 |-
        refine ⟨l,rfl,⟨_,SqL.of x9⟩,fun D hD _ _ _ _=>let I4:Nat->L2.St->Hp->Prop:=(fun n σ HA=>∃ (o:Option V) (qs:List V),σ=[o,some (.int (j:Nat))]/\Same H9 HA/\HA D=some (.lst qs)/\TermsAt HA qs (((ds.drop st).take n).map (sel j))/\qs.length<=n);comp_listN (K:=K) (a:=l) (xs:=us.drop st) I4
          ⟨none,[],rfl,same_new hD _,upd_same,TermsAt.nil,Nat.le_refl _⟩ (fun n σ HA _ ⟨_,_,_,sA,_⟩=>sA.seq (SqL.of x9)) ?_ ?_⟩
        · rintro n x σ HA hx ⟨o,qs,rfl,sA,gA,hqs,hql⟩
          have hnl:=(List.getElem?_eq_some_iff.mp hx).1
          rw [List.length_drop] at hnl
          obtain ⟨d,hd,htri⟩:=paired_get (paired_drop st ((hpl6.same s8).same s9)) n x hx
          obtain ⟨ta,xs,v,rfl,hta,hat,hv⟩:=tri_sel (htri.same sA) j hj
          refine ⟨_,rfl,_,rfl,ta,xs,_,v,rfl,rfl,SqL.of hta,hat,qs,gA,big (by omega),_,qs++[v],rfl,fun b ob z=>by rw [upd_ne (ne_of_none z hD)];exact sA _ _ z,upd_same,?_,by rw [zLA];simp only [zLC,zLN];omega⟩
          rw [List.take_succ,hd,Option.toList_some,List.map_append]
          exact TermsAt.mono (.lst gA) (hqs.app (.cons hv .nil))
        rintro σc HA ⟨o,qs,rfl,sA,gA,hqs,hql⟩
        rw [List.take_of_length_le (by rw [List.length_drop,List.length_drop];omega)] at hqs
        have s8A:=s9.trans sA
        refine ⟨_,rfl,.inl ⟨rfl,_,SqL.of (s8A _ _ g8)⟩,_,rfl,_,_,rfl,rfl,⟨by decide,by decide⟩,_,rfl,fun x HB sB hx hw=>?_⟩
        refine ⟨_,rfl,D,_,rfl,.inl ⟨SqL.of (sB _ _ gA),fun b fb=>?_⟩⟩
        have sC:=same_new fb (HO.tup qs)
        have xC:upd HB b (HO.tup qs) b=some _:=upd_same
        generalize upd HB b (HO.tup qs)=HC at sC xC |-
        refine ⟨(by show 3<=sizeLine;decide),fun g fg=>?_⟩
        have sD:=same_new fg (HO.tup [.str "thing",.str x,.ref b])
        have xD:upd HC g (HO.tup [.str "thing",.str x,.ref b]) g=some _:=upd_same
        generalize upd HC g (HO.tup [.str "thing",.str x,.ref b])=HD at sD xD |-
        have sAD:=sB.trans (sC.trans sD)
        have s8D:=s8A.trans sAD
        have hvl:=hvs.len
        rw [zLM,List.length_range] at hvl
        refine ⟨tr,_,_,rfl,rfl,s8D _ _ g8,big (by omega),?_⟩
        have kE:TSame HD (upd HD tr (HO.lst (vs++[.ref g]))):=.lst (s8D _ _ g8)
        have ew:((List.range j).map fun n=>sel n (thT wh (ds.drop st)))=((List.range j).map fun n=>sel n (thT x (ds.drop st))):=by
          rcases hwj with rfl | z
          · rfl
          · rw [z.det hw]
        refine ⟨vs++[.ref g],x,_,_,rfl,fun b' ob z=>by rw [upd_ne (ne_of_none z ftr)];exact s8D _ _ (s8 _ _ z),upd_same,hx,.inr hw,?_⟩
        rw [List.range_succ,List.map_append,<- ew]
        refine TermsAt.mono kE ((hvs.mono (.of s8D)).app (.cons ?_ .nil))
        show TermAt HD (.ref g) (sel j (thT x (ds.drop st)))
        rw [sel_th]
        exact termAt_thing.mpr ⟨g,b,qs,rfl,xD,sD _ _ xC,hqs.mono (.of sAD)⟩
      rintro σ H8 ⟨vs,wh,o6',o13',rfl,s8,g8,hwh,hwj,hvs⟩
      simp only [show List.range 3=[0,1,2] from rfl,List.map_cons,List.map_nil,TermsAt,dtL,DatsAt] at hvs
      obtain ⟨y0,_,rfl,h0,y1,_,rfl,h1,y2,_,rfl,h2,rfl⟩:=hvs
      refine ⟨_,rfl,_,rfl,_,rfl,p,us,rfl,SqL.of (s8 _ _ gp6),fun p' fp'=>?_⟩
      rw [cut_to us _ j0 j1,est]
      have s9:=same_new fp' (HO.lst (us.take st))
      have x9:upd H8 p' (HO.lst (us.take st)) p'=some _:=upd_same
      generalize upd H8 p' (HO.lst (us.take st))=H9 at s9 x9 |-
      have s69:=s8.trans s9
      have hth:=HidT.th (m:=m) (seen:=seen) (w:=wh) (a:=ds.drop st) hwh (by intro z;have:=congrArg List.length z;rw [List.length_drop] at this;simp only [zLN] at this;omega) (fun d hd=>hds d (List.mem_of_mem_drop hd))
      have hsp:=triN_take_drop ds st
      have f6:H p'=none:=(s3.trans (s36.trans s8)).free fp'
      exact key _ _ ⟨p',us.take st,ds.take st,tr,y0,y1,y2,thT wh (ds.drop st),_,_,_,rfl,⟨s3.trans (s36.trans s69),x9,s69 _ _ gs6,hss6.mono (.of s69),paired_take st (hpl6.same s69),s9 _ _ g8,TermAt.mono (.of s9) h0,TermAt.mono (.of s9) h1,TermAt.mono (.of s9) h2,hth.1⟩,
        f6,(ne_of_none (s8 _ _ gs6) fp').symm,PileAt.apart fp' (paired_take st (hpl6.same s8)),as.sub fun x hx=>List.mem_of_mem_take hx,(s3.trans s36).free ftr,ne_of_none g8 fp',(ne_of_none gs6 ftr).symm,(hpl6.apart ftr).sub fun x hx=>List.mem_of_mem_take hx,fun d hd=>hds d (List.mem_of_mem_take hd),by rw [hth.2];omega⟩
    rintro σ H7 ⟨p,us,ds,tr,x0,x1,x2,d,o6,o12,o13,rfl,M,fp,npn,ap,as,ftr,ntp,nts,atr,hds,htn⟩
    have hd22:=M.hd.2.2.2.2.1
    with_reducible show tSeq _ _ _ _ _
    refine let I5:L2.St->Hp->Prop:=(fun σ H8=>∃ (ss':List V) (seen':List Tm),σ=[some (.ref a),some (.int (m:Nat)),some (.ref p),some (.ref sn),some (.int c),none,o6,some (.int k),some v0,some (.ref tr),o10,o11,o12,o13]/\Mid H m p sn tr us ss' ds seen' x0 x1 x2 d H8/\(∀ d∈ds,HidT m seen' d) /\
      d.2.2∈seen'/\seen'.length<=i+1/\(∀ t∈seen',t.Ok/\t.nodes<=i+1));tSeq_cut I5 ?_ (fun key=>?_)
    rotate_left
    · refine ⟨_,rfl,tr,_,_,_,rfl,rfl,SqL.of M.gtr,rfl,_,rfl,d.2.2.dt,sn,ss,dtL seen,M.h2,rfl,M.gs,M.hss,?_,fun b hb=>⟨_,rfl,ite2 (fun c3=>?_) (fun c3=>?_)⟩⟩
      · intro e he
        rw [dtL_map] at he
        obtain ⟨t,ht,rfl⟩:=List.mem_map.mp he
        have h1:=t.dep_le
        have h2:=(hso t ht).2
        show (A.deeper _).units+1+_<cLine
        omega
      · refine ⟨_,rfl,.inl ⟨rfl,_,SqL.of M.gs⟩,_,rfl,tr,_,_,_,rfl,rfl,SqL.of M.gtr,rfl,sn,ss,x2,rfl,rfl,M.gs,big (by have:=M.hss.len;omega),?_⟩
        have k8:TSame H7 (upd H7 sn (HO.lst (ss++[x2]))):=.lst M.gs
        refine key _ _ ⟨ss++[x2],seen++[d.2.2],rfl,⟨fun b ob z=>by rw [upd_ne (ne_of_none z hsn)];exact M.sm _ _ z,by rw [upd_ne npn];exact M.gp,upd_same,TermsAt.mono k8 (M.hss.app (.cons M.h2 .nil)),M.hpl.lst M.gs as,by rw [upd_ne nts];exact M.gtr,M.h0.mono k8,M.h1.mono k8,M.h2.mono k8,M.hd.app⟩,
          fun d' hd'=>(hds d' hd').app,by simp,by rw [zLA];simp only [zLC,zLN];omega,fun t ht=>?_⟩
        rcases List.mem_append.mp ht with z | z
        · have:=hso t z
          exact ⟨this.1,by omega⟩
        · cases List.mem_singleton.mp z
          exact ⟨hd22,by omega⟩
      · have hin:d.2.2∈seen:=by
          have:d.2.2.dt∈dtL seen:=Classical.byContradiction fun z=>c3 (hb.mpr z)
          rw [dtL_map] at this
          obtain ⟨t,ht,e⟩:=List.mem_map.mp this
          rw [<- Tm.dt_inj _ _ e]
          exact ht
        exact key _ _ ⟨ss,seen,rfl,M,hds,hin,by omega,fun t ht=>⟨(hso t ht).1,by have:=(hso t ht).2;omega⟩⟩
    rintro σ H8 ⟨ss',seen',rfl,M',hds',hin,hsl',hso'⟩
    obtain ⟨j,hj,ej,hjm⟩:=first_place (x:=d.2.2.dt) (l:=dtL seen') (by rw [dtL_map];exact List.mem_map.mpr ⟨_,hin,rfl⟩)
    have hj':seen'[j]?=some d.2.2:=by
      have e1:(dtL seen')[j]?=some d.2.2.dt:=by rw [List.getElem?_eq_getElem hj,ej]
      rw [dtL_map,List.getElem?_map] at e1
      cases e2:seen'[j]? with
      | none=>rw [e2] at e1;cases e1
      | some t =>
        rw [e2] at e1
        rw [Tm.dt_inj _ _ (Option.some.inj e1)]
    refine ⟨_,rfl,.inl ⟨rfl,_,SqL.of M'.gs⟩,_,rfl,tr,_,_,_,rfl,rfl,SqL.of M'.gtr,rfl,sn,x2,ss',dtL seen',_,j,rfl,rfl,M'.gs,M'.hss,M'.h2,?_,⟨hj,ej,hjm⟩,_,rfl,_,_,rfl,rfl,(show (0:Int)<(m:Int) by omega),j % m,rfl,fun xw hxw=>?_⟩
    · intro e he
      rw [dtL_map] at he
      obtain ⟨t,ht,rfl⟩:=List.mem_map.mp he
      have h1:=t.dep_le
      have h2:=(hso' t ht).2
      show (A.deeper _).units+2+_<cLine
      omega
    refine ⟨(by show 2<=sizeLine;decide),fun gb fb=>?_⟩
    have s9:=same_new fb (HO.tup [.str "blank",.str xw])
    have x9:upd H8 gb (HO.tup [.str "blank",.str xw]) gb=some _:=upd_same
    generalize upd H8 gb (HO.tup [.str "blank",.str xw])=H9 at s9 x9 |-
    have M9:=M'.same s9
    have hgb:TermAt H9 (.ref gb) (.blank xw):=termAt_blank.mpr ⟨gb,rfl,x9⟩
    have hhid:Hid m seen' d.2.2 (.blank xw):=.inn ⟨xw,j,rfl,hxw,hj'⟩
    have hbo:(Tm.blank xw).Ok:=by simp only [Tm.Ok];exact callL_wd hxw
    have hbn:(Tm.blank xw).nodes<=d.2.2.nodes:=d.2.2.nodes_pos
    refine ⟨_,rfl,_,_,rfl,rfl,⟨by decide,by decide⟩,_,_,rfl,rfl,(show (0:Int)<_ by decide),?_⟩
    show Ends.nx _ _ _
    with_reducible show tSeq _ _ _ _ _
    refine let I6:L2.St->Hp->Prop:=(fun σ HA=>∃ (y0:V) (t0:Tm),σ=[some (.ref a),some (.int (m:Nat)),some (.ref p),some (.ref sn),some (.int c),none,o6,some (.int k),some v0,some (.ref tr),some (.ref gb),some (.int (c / 7 % 6)),o12,o13]/\Mid H m p sn tr us ss' ds seen' y0 x1 x2 (t0,d.2) HA/\TermAt HA (.ref gb) (.blank xw));tSeq_cut I6 ?_ (fun key=>?_)
    rotate_left
    · have put:=key _ _ ⟨.ref gb,.blank xw,rfl,M9.put0 ftr ntp nts atr hgb hhid hbo hbn,hgb.mono (.lst M9.gtr)⟩
      refine ⟨_,rfl,rfl,_,rfl,ite2 (fun _=>iteT ?_) (fun _=>⟨_,rfl,rfl,_,rfl,ite2 (fun _=>?_) (fun _=>key _ _ ⟨x0,d.1,rfl,M9,hgb⟩)⟩)⟩
      · exact ⟨_,rfl,_,rfl,tr,_,_,0,rfl,rfl,M9.gtr,rfl,put⟩
      · exact ⟨_,rfl,_,rfl,tr,_,_,0,rfl,rfl,M9.gtr,rfl,put⟩
    rintro σ HA ⟨y0,t0',rfl,MA,hgbA⟩
    with_reducible show tSeq _ _ _ _ _
    refine let I7:L2.St->Hp->Prop:=(fun σ HB=>∃ (y1:V) (t1:Tm),σ=[some (.ref a),some (.int (m:Nat)),some (.ref p),some (.ref sn),some (.int c),none,o6,some (.int k),some v0,some (.ref tr),some (.ref gb),some (.int (c / 7 % 6)),o12,o13]/\Mid H m p sn tr us ss' ds seen' y0 y1 x2 (t0',t1,d.2.2) HB);tSeq_cut I7 ?_ (fun key=>?_)
    rotate_left
    · have put:=key _ _ ⟨.ref gb,.blank xw,rfl,Mid.put1 (d:=(t0',d.2)) ftr ntp nts atr hgbA hhid hbo hbn MA⟩
      refine ⟨_,rfl,rfl,_,rfl,ite2 (fun _=>iteT ?_) (fun _=>⟨_,rfl,rfl,_,rfl,ite2 (fun _=>?_) (fun _=>key _ _ ⟨x1,d.2.1,rfl,MA⟩)⟩)⟩
      · exact ⟨_,rfl,_,rfl,tr,_,_,1,rfl,rfl,MA.gtr,rfl,put⟩
      · exact ⟨_,rfl,_,rfl,tr,_,_,1,rfl,rfl,MA.gtr,rfl,put⟩
    rintro σ HB ⟨y1,t1,rfl,MB⟩
    have hul:=Paired.length MB.hpl
    have htl:=triN_len ds
    refine ⟨_,rfl,.inl ⟨rfl,_,SqL.of MB.gp⟩,_,rfl,p,_,_,rfl,rfl,MB.gp,big (by omega),?_⟩
    have kC:TSame HB (upd HB p (HO.lst (us++[.ref tr]))):=.lst MB.gp
    refine ⟨p,us++[.ref tr],ss',ds++[(t0',t1,d.2.2)],seen',_,_,_,_,_,_,_,_,_,rfl,fun b ob z=>by rw [upd_ne (ne_of_none z fp)];exact MB.sm _ _ z,fp,npn,upd_same,by rw [upd_ne npn.symm];exact MB.gs,MB.hss.mono kC,
      paired_snoc (PileAt.lst MB.gp ap MB.hpl) ⟨tr,_,_,_,rfl,by rw [upd_ne ntp];exact MB.gtr,MB.h0.mono kC,MB.h1.mono kC,MB.h2.mono kC⟩,ap.snoc ntp,as.snoc nts,fun d' hd'=>?_,?_,hsl',hso',by omega⟩
    · rcases List.mem_append.mp hd' with z | z
      · exact hds' d' z
      · cases List.mem_singleton.mp z
        exact MB.hd
    · rw [triN_append]
      simp only [triN]
      omega
  rintro σ H3 ⟨p,us,ss,ds,seen,o4,o6,o7,o8,o9,o10,o11,o12,o13,rfl,s3,fp,npn,gp,gs,hss,hpl,ap,as,hds,htn,hsl,hso,hil⟩
  rw [zLM] at htn hsl hso
  have hul:=Paired.length hpl
  have htl:=triN_len ds
  have hsslen:=hss.len
  refine ⟨(by show 0<=sizeLine;decide),fun lf flf=>?_⟩
  have s4:=same_new flf (HO.lst [])
  have x4:upd H3 lf (HO.lst []) lf=some _:=upd_same
  generalize upd H3 lf (HO.lst [])=H4 at s4 x4 |-
  refine ⟨3,rfl,by decide,by decide,let I8:Nat->L2.St->Hp->Prop:=(fun j σ H5=>∃ (vs:List V) (o6:Option V),σ=[some (.ref a),some (.int (m:Nat)),some (.ref p),some (.ref sn),o4,some (.ref lf),o6,o7,o8,o9,o10,o11,o12,o13]/\Same H3 H5/\H5 lf=some (.lst vs)/\TermsAt H5 vs ((List.range j).map fun n=>sel n (thT "row" (ds++[(.name "end",.name "end",.name "end")]))));for_range (lo:=0) (n:=3) I8
    ⟨[],o6,rfl,s4,x4,TermsAt.nil⟩ ?_ ?_⟩
  · rintro j σ H5 hj ⟨vs,o6',rfl,s5,g5,hvs⟩
    have e0:(0:Int)+(j:Int)=((j:Nat):Int):=by omega
    rw [e0]
    have hvl:=hvs.len
    rw [zLM,List.length_range] at hvl
    refine ⟨_,rfl,.inl ⟨rfl,_,SqL.of g5⟩,_,rfl,p,rfl,⟨_,SqL.of (s5 _ _ gp)⟩,fun D hD _ _ _ _=>let I9:Nat->L2.St->Hp->Prop:=(fun n σ HA=>∃ (o:Option V) (qs:List V),σ=[o,some (.int (j:Nat))]/\Same H5 HA/\HA D=some (.lst qs)/\TermsAt HA qs ((ds.take n).map (sel j))/\qs.length<=n);comp_listN (K:=K) (a:=p) (xs:=us) I9
      ⟨none,[],rfl,same_new hD _,upd_same,TermsAt.nil,Nat.le_refl _⟩ (fun n σ HA _ ⟨_,_,_,sA,_⟩=>sA.seq (SqL.of (s5 _ _ gp))) ?_ ?_⟩
    · rintro n x σ HA hx ⟨o,qs,rfl,sA,gA,hqs,hql⟩
      have hnl:=(List.getElem?_eq_some_iff.mp hx).1
      obtain ⟨d,hd,htri⟩:=paired_get (hpl.same s5) n x hx
      obtain ⟨ta,xs,v,rfl,hta,hat,hv⟩:=tri_sel (htri.same sA) j hj
      refine ⟨_,rfl,_,rfl,ta,xs,_,v,rfl,rfl,SqL.of hta,hat,qs,gA,big (by omega),_,qs++[v],rfl,fun b ob z=>by rw [upd_ne (ne_of_none z hD)];exact sA _ _ z,upd_same,?_,by rw [zLA];simp only [zLC,zLN];omega⟩
      rw [List.take_succ,hd,Option.toList_some,List.map_append]
      exact TermsAt.mono (.lst gA) (hqs.app (.cons hv .nil))
    rintro σc HA ⟨o,qs,rfl,sA,gA,hqs,hql⟩
    rw [List.take_of_length_le (by omega)] at hqs
    refine ⟨(by show 2<=sizeLine;decide),fun ge fe=>?_⟩
    have sB:=same_new fe (HO.tup [.str "name",.str "end"])
    have xB:upd HA ge (HO.tup [.str "name",.str "end"]) ge=some _:=upd_same
    generalize upd HA ge (HO.tup [.str "name",.str "end"])=HB at sB xB |-
    refine ⟨(by show 1<=sizeLine;decide),fun le fl=>?_⟩
    have sC:=same_new fl (HO.lst [.ref ge])
    have xC:upd HB le (HO.lst [.ref ge]) le=some _:=upd_same
    generalize upd HB le (HO.lst [.ref ge])=HC at sC xC |-
    have sAC:=sB.trans sC
    refine ⟨D,le,_,_,rfl,rfl,sAC _ _ gA,xC,small (by simp only [zLC,zLN];omega),fun l4 f4=>?_⟩
    have sD:=same_new f4 (HO.lst (qs++[.ref ge]))
    have xD:upd HC l4 (HO.lst (qs++[.ref ge])) l4=some _:=upd_same
    generalize upd HC l4 (HO.lst (qs++[.ref ge]))=HD at sD xD |-
    refine ⟨l4,_,rfl,.inl ⟨SqL.of xD,fun b fb=>?_⟩⟩
    have sE:=same_new fb (HO.tup (qs++[.ref ge]))
    have xE:upd HD b (HO.tup (qs++[.ref ge])) b=some _:=upd_same
    generalize upd HD b (HO.tup (qs++[.ref ge]))=HE at sE xE |-
    refine ⟨(by show 3<=sizeLine;decide),fun g fg=>?_⟩
    have sF:=same_new fg (HO.tup [.str "thing",.str "row",.ref b])
    have xF:upd HE g (HO.tup [.str "thing",.str "row",.ref b]) g=some _:=upd_same
    generalize upd HE g (HO.tup [.str "thing",.str "row",.ref b])=HF at sF xF |-
    have sBF:=sC.trans (sD.trans (sE.trans sF))
    have sAF:=sB.trans sBF
    have s5F:=sA.trans sAF
    refine ⟨lf,_,_,rfl,rfl,s5F _ _ g5,big (by omega),?_⟩
    have kG:TSame HF (upd HF lf (HO.lst (vs++[.ref g]))):=.lst (s5F _ _ g5)
    refine ⟨vs++[.ref g],_,rfl,fun b' ob z=>by rw [upd_ne (ne_of_none z flf)];exact s5F _ _ (s5 _ _ z),upd_same,?_⟩
    rw [List.range_succ,List.map_append]
    refine TermsAt.mono kG ((hvs.mono (.of s5F)).app (.cons ?_ .nil))
    show TermAt HF (.ref g) (sel j (thT "row" (ds++[(.name "end",.name "end",.name "end")])))
    rw [sel_th]
    refine termAt_thing.mpr ⟨g,b,_,rfl,xF,sF _ _ xE,?_⟩
    rw [List.map_append]
    refine (hqs.mono (.of sAF)).app (.cons ?_ .nil)
    have e1:sel j (Tm.name "end",Tm.name "end",Tm.name "end")=Tm.name "end":=by
      match j with
      | 0=>rfl
      | 1=>rfl
      | _+2=>rfl
    rw [e1]
    exact termAt_name.mpr ⟨ge,rfl,sBF _ _ xB⟩
  rintro σ H5 ⟨vs,o6',rfl,s5,g5,hvs⟩
  simp only [show List.range 3=[0,1,2] from rfl,List.map_cons,List.map_nil,TermsAt,dtL,DatsAt] at hvs
  obtain ⟨y0,_,rfl,h0,y1,_,rfl,h1,y2,_,rfl,h2,rfl⟩:=hvs
  have gs5:=s5 _ _ gs
  refine ⟨_,rfl,_,rfl,sn,_,rfl,.inl (SqL.of gs5),_,rfl,by omega,by omega,fun lp flp _ _ _ _=>let I10:Nat->L2.St->Hp->Prop:=(fun n σ H6=>∃ (o:Option V) (pv:List V) (f:Fl),σ=[o,some (.ref sn)]/\Same H5 H6/\H6 lp=some (.lst pv)/\FillAt H6 pv f/\f.map (·.2)=seen.take n/\(∀ i p,f[i]?=some p->p.1.cps.toList=callL i)/\pv.length=n);comp_rangeN (lo:=0) (n:=(((ss.length:Nat):Int)).toNat) I10
    ⟨none,[],[],rfl,same_new flp _,upd_same,.nil,rfl,fun i p z=>by simp at z,rfl⟩ ?_ ?_⟩
  · rintro n σ H6 hn ⟨o,pv,f,rfl,s6,g6,hf,hfs,hfw,hpv⟩
    rw [Int.toNat_natCast] at hn
    have e0:(0:Int)+(n:Int)=((n:Nat):Int):=by omega
    rw [e0]
    have hat:atI ss ((n:Nat):Int)=some ss[n]:=atI_nat (List.getElem?_eq_getElem hn)
    refine ⟨_,rfl,n,rfl,fun xw hxw=>⟨_,rfl,_,rfl,sn,ss,_,_,rfl,rfl,SqL.of (s6 _ _ gs5),hat,(by show 2<=sizeLine;decide),fun g fg=>?_⟩⟩
    have s7:=same_new fg (HO.tup [.str xw,ss[n]])
    have x7:upd H6 g (HO.tup [.str xw,ss[n]]) g=some _:=upd_same
    generalize upd H6 g (HO.tup [.str xw,ss[n]])=H7 at s7 x7 |-
    have g7:=s7 _ _ g6
    have hfl:=hf.len
    have k8:TSame H7 (upd H7 lp (HO.lst (pv++[.ref g]))):=.lst g7
    refine ⟨pv,g7,big (by omega),_,pv++[.ref g],f++[(xw,seen[n]'(by omega))],rfl,fun b ob z=>by rw [upd_ne (ne_of_none z flp)];exact s7 _ _ (s6 _ _ z),upd_same,?_,?_,fun i q' hq=>?_,by simp [hpv]⟩
    · exact FillAt.mono k8 (paired_snoc (hf.mono (.of s7)) ⟨g,_,rfl,x7,(hss.at n hn (by omega)).mono (.of (s5.trans (s6.trans s7)))⟩)
    · rw [List.map_append,hfs,List.take_succ,List.getElem?_eq_getElem (by omega)]
      rfl
    · by_cases c:i<f.length
      · rw [List.getElem?_append_left c] at hq
        exact hfw i q' hq
      · have hi:i=f.length:=by
          have:=(List.getElem?_eq_some_iff.mp hq).1
          rw [zLA] at this
          simp only [zLC,zLN] at this
          omega
        subst hi
        rw [List.getElem?_append_right (Nat.le_refl _),Nat.sub_self] at hq
        cases hq
        rw [<- hfl,hpv]
        exact hxw
  rintro σc H6 ⟨o,pv,f,rfl,s6,g6,hf,hfs,hfw,hpv⟩
  rw [Int.toNat_natCast,List.take_of_length_le (by omega)] at hfs
  have hend:HidT m seen ((.name "end",.name "end",.name "end"):Tri):=HidT.leaf (by trivial) (by simp only [Tm.Ok];exact wend)
  have hth:=HidT.th (m:=m) (seen:=seen) (w:="row") (a:=ds++[(.name "end",.name "end",.name "end")]) wrow (by simp) (fun d hd=>by
    rcases List.mem_append.mp hd with z | z
    · exact hds d z
    · cases List.mem_singleton.mp z
      exact hend)
  refine ⟨(by show 2<=sizeLine;decide),fun r fr=>?_⟩
  have s7:=same_new fr (HO.tup [.ref lf,.ref lp])
  have s57:=s6.trans s7
  refine q r lf lp y0 y1 y2 _ seen pv f _ (s3.trans (s5.trans s57)) upd_same (s57 _ _ g5) (TermAt.mono (.of s57) h0) (TermAt.mono (.of s57) h1) (TermAt.mono (.of s57) h2) hth.1 ?_ (s7 _ _ g6) (hf.mono (.of s7)) hfs hfw hsl hso
  rw [hth.2,triN_append]
  simp only [triN,Tm.nodes]
  omega
end
end K08
namespace K08
open PySem L2 BF
section
variable {P:Program}{w:World}{K:PySem.W.Frag}{mg:Str->Option Value}{base:Heap}
def spLaw (K:PySem.W.Frag):Sp:=fun vs H Q _=>∃ (a:Addr) (ns:List Int),vs=[.ref a]/\SqL K H a (ns.map V.int)/\ns.length<=63/\∀ H',Q (.bl true) H'
theorem cutv_to (xs:List V) (i:Nat):cutV xs none (some (i:Int))=xs.take i:=by
  unfold cutV
  rw [HT.sIx_none,HT.sIx_nat]
  simp
theorem ok_law {f0:Addr}{fd:FuncData}(F:Fun K "law" "law" s_law f0 fd) (T:Bi mg) (c__law_hidden:Cal P w K mg base 3 "_law_hidden" ["_law_cells","_law_many"] (spHidden K)) (c__law_room:Cal P w K mg base 1 "_law_room" ["_law_script","_law_most","_law_bound"] (spRoom K)) (c_alike:Cal P w K mg base 8 "alike" ["one","other"] spAlike)
    (c__law_good:Cal P w K mg base 5 "_law_good" ["_law_filling","_law_one","_law_other"] spGood) (c__law_blanks:Cal P w K mg base 2 "_law_blanks" ["_law_term"] spBlanks) (c__law_fill:Cal P w K mg base 2 "_law_fill" ["_law_term","_law_pairs"] spFill):FnOk P w K mg base CX0 9 f0 fd ["_law_script"] (spLaw K):=by
  refine F.ok sc_law (fun vs H Q E h=>?_) (fun cdv A outer s H vs Q E hr h=>?_)
  · obtain ⟨a,ns,rfl,_⟩:=h
    rfl
  obtain ⟨a,ns,rfl,hS0,h63,q⟩:=h
  have hun:=hr.un
  refine ⟨_,(pss_cons (ps_set (i:=1) sc_law.nd rfl (Or.inl rfl) (pe_slice sl_list (pv 0) po_none (po_some (pe_cal c__law_room (hr.mono (by decide)) (pa_cons (pv 0) (pa_cons pe_int (pa_cons pe_int pa_nil)))))))
      (pss_cons (ps_if (pw_and (pt_cmpR op_gt (pe_blt call_len_seq T.b_len bt_len (pa_cons (pv 0) pa_nil)) pe_int (nomark _)) (pw_and1 (pt_cmpR op_eq (pe_op op_mod (pe_ix ix_list (pv 0) pe_int (fun _ _=>rfl)) pe_int) pe_int (nomark _)))).pt (pss_one (ps_set (i:=1) sc_law.nd rfl (Or.inl rfl) (pe_op op_cat (pe_slice sl_list (pv 0) po_none (po_some pe_int)) (pe_ix ix_list (pe_lst (pa_cons (pe_lst (pa_cons pe_int (pa_cons pe_int pa_nil))) (pa_cons (pe_lst (pa_cons pe_int (pa_cons pe_int pa_nil))) (pa_cons (pe_lst (pa_cons pe_int (pa_cons pe_int pa_nil))) (pa_cons (pe_lst (pa_cons pe_int (pa_cons pe_int pa_nil))) pa_nil))))) (pe_op op_mod (pe_ix ix_list (pv 0) pe_int (fun _ _=>rfl)) pe_int) (fun _ _=>rfl))))) pss_nil)
      (pss_cons (ps_set (i:=2) sc_law.nd rfl (Or.inl rfl) (pe_cal c__law_hidden (hr.mono (by decide)) (pa_cons (pv 1) (pa_cons pe_int pa_nil))))
      (pss_cons (ps_set (i:=3) sc_law.nd rfl (Or.inl rfl) (pe_ix ix_list (pe_ix ix_tup (pv 2) pe_int (fun _ _=>rfl)) pe_int (fun _ _=>rfl)))
      (pss_cons (ps_set (i:=4) sc_law.nd rfl (Or.inl rfl) (pe_ix ix_list (pe_ix ix_tup (pv 2) pe_int (fun _ _=>rfl)) pe_int (fun _ _=>rfl)))
      (pss_cons (ps_set (i:=5) sc_law.nd rfl (Or.inl rfl) (pe_cal c_alike (hr.mono (by decide)) (pa_cons (pv 3) (pa_cons (pv 4) pa_nil))))
      (pss_cons (ps_if (pw_or (pt_not (pt_val (pe_blt call_isi T.b_isinstance bt_isinstance (pa_cons (pv 5) (pa_cons (pe_tyn T.b_tuple bt_tuple) pa_nil))))) (pw_or (pt_cmpR op_ne (pe_blt call_len_seq T.b_len bt_len (pa_cons (pv 5) pa_nil)) pe_int (nomark _)) (pw_or1 (pt_not (pt_val (pe_blt call_isi T.b_isinstance bt_isinstance (pa_cons (pe_ix ix_tup (pv 5) pe_int (fun _ _=>rfl)) (pa_cons (pe_tyn T.b_str bt_str) pa_nil)))))))).pt (pss_one (ps_ret pe_bl)) pss_nil)
      (pss_cons (ps_if (pw_or (pt_cmpR op_ne (pe_ix ix_tup (pv 5) pe_int (fun _ _=>rfl)) pe_str (nomark _)) (pw_or1 (pt_not (pt_val (pe_cal c__law_good (hr.mono (by decide)) (pa_cons (pe_ix ix_tup (pv 5) pe_int (fun _ _=>rfl)) (pa_cons (pv 3) (pa_cons (pv 4) pa_nil)))))))).pt (pss_one (ps_ret pe_bl)) pss_nil)
      (pss_cons (ps_for PassesOwn.never rfl (pi_list (pe_op op_cat (pe_cal c__law_blanks (hr.mono (by decide)) (pa_cons (pv 3) pa_nil)) (pe_cal c__law_blanks (hr.mono (by decide)) (pa_cons (pv 4) pa_nil)))) (pg_name (i:=6) sc_law.nd rfl (Or.inl rfl)) (pss_cons (ps_set (i:=7) sc_law.nd rfl (Or.inl rfl) (pe_cal c__law_fill (hr.mono (by decide)) (pa_cons (pe_tup (pa_cons pe_str (pa_cons (pv 6) pa_nil))) (pa_cons (pe_ix ix_tup (pv 2) pe_int (fun _ _=>rfl)) pa_nil))))
        (pss_one (ps_if (pt_cmpR op_neTm (pe_cal c__law_fill (hr.mono (by decide)) (pa_cons (pe_cal c__law_fill (hr.mono (by decide)) (pa_cons (pe_tup (pa_cons pe_str (pa_cons (pv 6) pa_nil))) (pa_cons (pe_ix ix_tup (pv 5) pe_int (fun _ _=>rfl)) pa_nil))) (pa_cons (pe_ix ix_tup (pv 2) pe_int (fun _ _=>rfl)) pa_nil))) (pv 7) (nomark _)) (pss_one (ps_ret pe_bl)) pss_nil))))
      (pss_one (ps_ret (pe_cmpR op_eqTm (pe_cal c__law_fill (hr.mono (by decide)) (pa_cons (pe_cal c__law_fill (hr.mono (by decide)) (pa_cons (pv 3) (pa_cons (pe_ix ix_tup (pv 5) pe_int (fun _ _=>rfl)) pa_nil))) (pa_cons (pe_ix ix_tup (pv 2) pe_int (fun _ _=>rfl)) pa_nil))) (pe_ix ix_list (pe_ix ix_tup (pv 2) pe_int (fun _ _=>rfl)) pe_int (fun _ _=>rfl)) (nomark _))))))))))))),?_⟩
  refine ⟨_,rfl,_,rfl,a,ns,16,60,rfl,hS0,h63,_,rfl,a,_,rfl,hS0,fun lc0 hlc0=>?_⟩
  rw [show (16:Int)=((16:Nat):Int) from rfl,cutv_to,<- List.map_take]
  have s1:=same_new hlc0 (HO.lst ((ns.take 16).map V.int))
  have x1:upd H lc0 (HO.lst ((ns.take 16).map V.int)) lc0=some _:=upd_same
  generalize upd H lc0 (HO.lst ((ns.take 16).map V.int))=H1 at s1 x1 |-
  have hS1:=s1.seq hS0
  show Ends.nx _ _ _
  with_reducible show tSeq _ _ _ _ _
  refine tSeq_cut (fun σ H2=>∃ (lc:Addr) (ms:List Int),σ=[some (.ref a),some (.ref lc),none,none,none,none,none,none]/\H2 lc=some (.lst (ms.map V.int))/\ms.length<=16) ?_ (fun key=>?_)
  rotate_left
  · have h0:=key [some (.ref a),some (.ref lc0),none,none,none,none,none,none]
    refine ⟨_,rfl,a,_,rfl,.inl hS1,_,_,rfl,rfl,_,rfl,ite2 (fun c=>?_) (fun c=>iteF (key _ _ ⟨lc0,_,rfl,x1,by rw [List.length_take];omega⟩))⟩
    have hlen:1<ns.length:=by
      have c':=of_decide_eq_true c
      rw [zLM] at c'
      omega
    refine ⟨_,rfl,a,_,_,.int ns[0],rfl,rfl,hS1,atI_nat (j:=0) (by rw [List.getElem?_map,List.getElem?_eq_getElem (by omega)];rfl),_,_,rfl,rfl,(show (0:Int)<3 by decide),rfl,_,rfl,ite2 (fun c2=>?_) (fun c2=>key _ _ ⟨lc0,_,rfl,x1,by rw [List.length_take];omega⟩)⟩
    refine ⟨_,rfl,_,rfl,a,_,rfl,hS1,fun p1 fp1=>?_⟩
    rw [show (12:Int)=((12:Nat):Int) from rfl,cutv_to,<- List.map_take]
    have t2:=same_new fp1 (HO.lst ((ns.take 12).map V.int))
    have z2:upd H1 p1 (HO.lst ((ns.take 12).map V.int)) p1=some _:=upd_same
    generalize upd H1 p1 (HO.lst ((ns.take 12).map V.int))=H2 at t2 z2 |-
    refine ⟨(by show 2<=sizeLine;decide),fun l1 f1=>?_⟩
    have u1:=same_new f1 (HO.lst [.int 12,.int 18])
    have y1:upd H2 l1 (HO.lst [.int 12,.int 18]) l1=some _:=upd_same
    generalize upd H2 l1 (HO.lst [.int 12,.int 18])=J1 at u1 y1 |-
    refine ⟨(by show 2<=sizeLine;decide),fun l2 f2=>?_⟩
    have u2:=same_new f2 (HO.lst [.int 18,.int 12])
    have y2:upd J1 l2 (HO.lst [.int 18,.int 12]) l2=some _:=upd_same
    generalize upd J1 l2 (HO.lst [.int 18,.int 12])=J2 at u2 y2 |-
    refine ⟨(by show 2<=sizeLine;decide),fun l3 f3=>?_⟩
    have u3:=same_new f3 (HO.lst [.int 180,.int 186])
    have y3:upd J2 l3 (HO.lst [.int 180,.int 186]) l3=some _:=upd_same
    generalize upd J2 l3 (HO.lst [.int 180,.int 186])=J3 at u3 y3 |-
    refine ⟨(by show 2<=sizeLine;decide),fun l4 f4=>?_⟩
    have u4:=same_new f4 (HO.lst [.int 60,.int 133])
    have y4:upd J3 l4 (HO.lst [.int 60,.int 133]) l4=some _:=upd_same
    generalize upd J3 l4 (HO.lst [.int 60,.int 133])=J4 at u4 y4 |-
    refine ⟨(by show 4<=sizeLine;decide),fun l5 f5=>?_⟩
    have u5:=same_new f5 (HO.lst [.ref l1,.ref l2,.ref l3,.ref l4])
    have y5:upd J4 l5 (HO.lst [.ref l1,.ref l2,.ref l3,.ref l4]) l5=some _:=upd_same
    generalize upd J4 l5 (HO.lst [.ref l1,.ref l2,.ref l3,.ref l4])=J5 at u5 y5 |-
    have e4:=u4.trans u5
    have e3:=u3.trans e4
    have e2:=u2.trans e3
    have e1:=t2.trans (u1.trans e2)
    have hS5:=e1.seq hS1
    refine ⟨_,rfl,a,_,_,.int ns[1],rfl,rfl,hS5,atI_nat (j:=1) (by rw [List.getElem?_map,List.getElem?_eq_getElem (by omega)];rfl),_,_,rfl,rfl,(show (0:Int)<4 by decide),?_⟩
    obtain ⟨lj,i,j,ek,hlj⟩:∃ (lj:Addr) (i j:Int),atI [V.ref l1,V.ref l2,V.ref l3,V.ref l4] (ns[1] % 4)=some (V.ref lj)/\J5 lj=some (.lst [.int i,.int j]):=by
      have g1:=Int.emod_nonneg ns[1] (show (4:Int)≠0 by decide)
      have g2:=Int.emod_lt_of_pos ns[1] (show (0:Int)<4 by decide)
      rcases (by omega:ns[1] % 4=0\/ns[1] % 4=1\/ns[1] % 4=2\/ns[1] % 4=3) with e | e | e | e <;> rw [e]
      · exact ⟨l1,_,_,atI_nat (j:=0) rfl,e2 _ _ y1⟩
      · exact ⟨l2,_,_,atI_nat (j:=1) rfl,e3 _ _ y2⟩
      · exact ⟨l3,_,_,atI_nat (j:=2) rfl,e4 _ _ y3⟩
      · exact ⟨l4,_,_,atI_nat (j:=3) rfl,u5 _ _ y4⟩
    refine ⟨l5,_,_,_,rfl,rfl,SqL.of y5,ek,p1,lj,_,_,rfl,rfl,(u1.trans e2) _ _ z2,hlj,small (by simp only [zLM,List.length_take,zLC,zLN];omega),fun p5 fp5=>?_⟩
    refine key _ _ ⟨p5,ns.take 12++[i,j],rfl,by rw [upd_same,List.map_append];rfl,by rw [zLA,List.length_take];simp only [zLC,zLN];omega⟩
  rintro σ H2 ⟨lc,ms,rfl,hlc,hms⟩
  refine ⟨_,rfl,lc,ms,600,rfl,SqL.of hlc,by omega,by decide,fun rr lf lp y0 y1 y2 d seen pv fl H3 s3 hrr hlf hy0 hy1 hy2 hid hdn hlp hpv hfs hcall hsl hsn=>?_⟩
  obtain ⟨hh0,hh1,ok0,ok1,ok2,hn0,hn1⟩:=hid
  have hfl:fl.length=seen.length:=by rw [<- hfs,zLM]
  subst hfs
  have e0:=hid_sub (m:=600) (by omega) (by omega) hcall d.2.2 d.1 hh0
  have e1:=hid_sub (m:=600) (by omega) (by omega) hcall d.2.2 d.2.1 hh1
  have hsol:Sol (fsub fl) (d.1,d.2.1):=by unfold Sol;rw [e0,e1]
  have hfn:=called_nodup (by omega:fl.length<=700) hcall
  have hphi:∀ x,(fsub fl x).nodes<=16:=fun x=>by
    unfold fsub
    cases e:look fl x with
    | none=>show 1<=16;decide
    | some t=>have:=(hsn t (List.mem_map.mpr ⟨_,look_mem e,rfl⟩)).2;simp only [Option.getD_some];omega
  refine ⟨_,rfl,_,_,_,_,rfl,rfl,SqT.of hrr,at0',lf,_,_,_,rfl,rfl,SqL.of hlf,at0',?_⟩
  refine ⟨_,rfl,_,_,_,_,rfl,rfl,SqT.of hrr,at0',lf,_,_,_,rfl,rfl,SqL.of hlf,at1',?_⟩
  refine ⟨_,rfl,_,rfl,y0,y1,(d.1,d.2.1),rfl,hy0,hy1,ok0,ok1,by show d.1.nodes+d.2.1.nodes<=60;omega,?_,?_,?_⟩
  rotate_left
  · intro b lL ls m z fs H4 s4 hb hlL hls hz hcl hsnd _ _
    exact absurd hsol (no_sol_clash hsnd hz hcl.1 hcl.2.1 (clash_no hcl) _)
  · intro b lL ln ls ns' R fs H4 s4 hb hlL hls hln hnums hR _ hsnd _ _
    exact absurd hsol (no_sol_ring hsnd hR (nums_in hnums) _)
  intro b lff lL ln ps ls ns' f fs H4 s4 hb hlff hfill hlL hls hln hA hsnd hinU hfsl
  have hbest:=hA.best _ hsol
  have hok2:=parts2_ok (g:=(d.1,d.2.1)) ok0 ok1
  have hval:∀ p∈f,p.2.nodes<=16:=fun p hp=>by
    have h1:=hbest p.1
    have h2:fsub f p.1=p.2:=by simp only [fsub,look_key hA.nodup hp,Option.getD_some]
    rw [h2] at h1
    have h3:=nodes_sub_ge (φ:=fsub fl) p.2
    rw [h1] at h3
    exact Nat.le_trans h3 (hphi _)
  have hFO:FOk7 f:=⟨fun p hp=>⟨(hA.keys p hp).elim (bl_wd ok0 _) (bl_wd ok1 _),hA.ok hA.nodup hok2 hp,by have:=hval p hp;omega,by have:=hval p hp;have:=dp_nodes p.2;omega,hA.own p hp⟩,hA.rise⟩
  have hsub2:∀ t:Tm,(t.fill f).fill fl=t.fill fl:=fun t=>by
    rw [fill_sub,fill_sub,fill_sub,sub_sub]
    exact sub_congr t fun x _=>hbest x
  have hone:(d.1.fill f).fill fl=d.2.2:=by rw [hsub2,fill_sub];exact e0
  have hfn1:(d.1.fill f).nodes<=18:=by
    have:=nodes_sub_ge (φ:=fsub fl) (d.1.fill f)
    rw [<- fill_sub,hone] at this
    omega
  have hb4:=hb
  have hy04:=hy0.mono (.of s4)
  have hy14:=hy1.mono (.of s4)
  have hrr4:=s4 _ _ hrr
  refine ⟨_,rfl,_,_,_,_,rfl,.tup hb,.tt,_,rfl,iteF ⟨_,rfl,b,_,rfl,.inr (SqT.of hb),rfl,_,rfl,ite_f (by simp) ⟨_,rfl,_,_,_,_,rfl,rfl,SqT.of hb,at0',_,_,_,_,rfl,.str _,.ss,_,rfl,iteF ?_⟩⟩⟩
  refine ⟨_,rfl,_,_,_,_,rfl,rfl,SqT.of hb,at0',rfl,_,rfl,ite_f (by decide +kernel) ⟨_,rfl,_,_,_,_,rfl,rfl,SqT.of hb,at1',_,rfl,_,rfl,lff,ps,f,y0,y1,d.1,d.2.1,rfl,hlff,hfill,hFO,hy04,hy14,by omega,by omega,hA.keys,hA.clean,hA.same,by have:=dp_nodes (d.1.fill f);omega,?_,fun H5 s5=>⟨_,rfl,iteF ?_⟩⟩⟩
  · have:=nodup_len hA.nodup (m:=d.1.bl++d.2.1.bl) fun x hx=>by
      obtain ⟨p,hp,rfl⟩:=List.mem_map.mp hx
      exact List.mem_append.mpr (hA.keys p hp)
    rw [zLM,zLA] at this
    have:=len_bl d.1
    have:=len_bl d.2.1
    omega
  have s45:=s4.trans s5
  have hbl0:=len_bl d.1
  have hbl1:=len_bl d.2.1
  have hfi0:=firsts_len d.1
  have hfi1:=firsts_len d.2.1
  refine ⟨_,rfl,y0,d.1,rfl,hy0.mono (.of s45),by omega,fun l1 H6 s6 g6=>⟨_,rfl,y1,d.2.1,rfl,hy1.mono (.of (s45.trans s6)),by omega,fun l2 H7 s7 g7=>⟨l1,l2,_,_,rfl,rfl,s7 _ _ g6,g7,small (by simp only [zLM];omega),fun lk fk=>?_⟩⟩⟩
  rw [<- List.map_append]
  have t8:=same_new fk (HO.lst ((d.1.firsts++d.2.1.firsts).map V.str))
  have x8:upd H7 lk (HO.lst ((d.1.firsts++d.2.1.firsts).map V.str)) lk=some _:=upd_same
  generalize upd H7 lk (HO.lst ((d.1.firsts++d.2.1.firsts).map V.str))=H8 at t8 x8 |-
  have s58:=s6.trans (s7.trans t8)
  have s48:=s5.trans s58
  have s38:=s4.trans s48
  refine ⟨lk,rfl,⟨_,SqL.of x8⟩,for_list (K:=K) (a:=lk) (xs:=(d.1.firsts++d.2.1.firsts).map V.str) (fun i σ HX=>∃ (o6 o7:Option V),σ=[some (.ref a),some (.ref lc),some (.ref rr),some y0,some y1,some (.ref b),o6,o7]/\Same H8 HX) ⟨none,none,rfl,Same.refl _⟩ (fun i σ HX _ ⟨_,_,_,sX⟩=>sX.seq (SqL.of x8)) ?_ ?_⟩
  · rintro i y σ HX hy ⟨o6,o7,rfl,sX⟩
    obtain ⟨x,ey⟩:∃ x:Str,y=.str x:=by
      obtain ⟨hi,e⟩:=List.getElem?_eq_some_iff.mp hy
      rw [List.getElem_map] at e
      exact ⟨_,e.symm⟩
    subst ey
    have s3X:=s38.trans sX
    have s4X:=s48.trans sX
    refine ⟨_,rfl,(by show 2<=sizeLine;decide),fun c1 fc1=>?_⟩
    have u1:=same_new fc1 (HO.tup [.str "blank",.str x])
    have w1:upd HX c1 (HO.tup [.str "blank",.str x]) c1=some _:=upd_same
    generalize upd HX c1 (HO.tup [.str "blank",.str x])=J1 at u1 w1 |-
    have e31:=s3X.trans u1
    refine ⟨_,rfl,_,_,_,_,rfl,rfl,SqT.of (e31 _ _ hrr),at1',_,.blank x,lp,pv,fl,rfl,termAt_blank.mpr ⟨c1,rfl,w1⟩,(by show 1<=5000000;decide),e31 _ _ hlp,hpv.mono (.of e31),hfn,fun v1 J2 u2 hv1=>?_⟩
    refine ⟨_,rfl,(by show 2<=sizeLine;decide),fun c2 fc2=>?_⟩
    have u3:=same_new fc2 (HO.tup [.str "blank",.str x])
    have w3:upd J2 c2 (HO.tup [.str "blank",.str x]) c2=some _:=upd_same
    generalize upd J2 c2 (HO.tup [.str "blank",.str x])=J3 at u3 w3 |-
    have e43:=s4X.trans (u1.trans (u2.trans u3))
    have e33:=s3X.trans (u1.trans (u2.trans u3))
    refine ⟨_,rfl,_,_,_,_,rfl,rfl,SqT.of (e43 _ _ hb),at1',_,.blank x,lff,ps,f,rfl,termAt_blank.mpr ⟨c2,rfl,w3⟩,(by show 1<=5000000;decide),e43 _ _ hlff,hfill.mono (.of e43),hA.nodup,fun v2 J4 u4 hv2=>?_⟩
    have e34:=e33.trans u4
    have hn2:((Tm.blank x).fill f).nodes<=5000000:=by
      have h1:=nodes_sub_ge (φ:=fsub fl) (fsub f x)
      rw [hbest x] at h1
      have h2:=hphi x
      have h3:(Tm.blank x).fill f=fsub f x:=by rw [fill_sub];rfl
      rw [h3]
      omega
    refine ⟨_,rfl,_,_,_,_,rfl,rfl,SqT.of (e34 _ _ hrr),at1',v2,_,lp,pv,fl,rfl,hv2,hn2,e34 _ _ hlp,hpv.mono (.of e34),hfn,fun v3 J5 u5 hv3=>?_⟩
    have e3e:((Tm.blank x).fill f).fill fl=(Tm.blank x).fill fl:=hsub2 _
    have hn4:((Tm.blank x).fill fl).nodes<=16:=by rw [fill_sub];exact hphi x
    refine ⟨_,rfl,_,_,hv3,hv1.mono (.of (u3.trans (u4.trans u5))),(by rw [e3e];show (A.deeper _).units+2 * _<cLine;omega),fun bb hbb=>⟨_,rfl,ite_f (Bool.eq_false_iff.mpr fun z=>hbb.mp z e3e) ?_⟩⟩
    exact ⟨_,_,rfl,sX.trans (u1.trans (u2.trans (u3.trans (u4.trans u5))))⟩
  rintro σ HX ⟨o6,o7,rfl,sX⟩
  have s3X:=s38.trans sX
  have s4X:=s48.trans sX
  refine ⟨_,rfl,_,rfl,_,_,_,_,rfl,rfl,SqT.of (s4X _ _ hb),at1',y0,d.1,lff,ps,f,rfl,hy0.mono (.of s3X),by omega,s4X _ _ hlff,hfill.mono (.of s4X),hA.nodup,fun v1 J1 u1 hv1=>?_⟩
  have e31:=s3X.trans u1
  refine ⟨_,rfl,_,_,_,_,rfl,rfl,SqT.of (e31 _ _ hrr),at1',v1,_,lp,pv,fl,rfl,hv1,by omega,e31 _ _ hlp,hpv.mono (.of e31),hfn,fun v2 J2 u2 hv2=>?_⟩
  have e32:=e31.trans u2
  rw [hone] at hv2
  refine ⟨_,rfl,_,_,_,_,rfl,rfl,SqT.of (e32 _ _ hrr),at0',lf,_,_,_,rfl,rfl,SqL.of (e32 _ _ hlf),atI_nat (j:=2) rfl,d.2.2,d.2.2,hv2,hy2.mono (.of e32),(by show (A.deeper _).units+2 * _<cLine;omega),fun bb hbb=>?_⟩
  rw [hbb.mpr rfl]
  exact q _
end
end K08
namespace PySem.W.Fast
def tw13927990870694959821:=0
def tw13518075342471930830:=0
def tw1323969928494700025:=0
def tw10951896279449814035:=0
def tw3840453123182499897:=0
def tw15460984799013219036:=0
def tw6841119099911038552:=0
def tw273426597799829347:=0
def tw17401840662314421069:=0
def tw18390544095121948602:=0
def tw14827992907326396544:=0
def tw17375653282763205167:=0
def tw15739463578906723710:=0
def tw15737685020843033916:=0
def tw15016664301752789338:=0
def tw10048685753083390976:=0
def tw10807621816914127672:=0
def tw2256679117013906917:=0
def tw13247301700646811414:=0
def tw9527991591610269561:=0
def tw14826805173307168081:=0
def tw18402348846779324603:=0
def tw4222901557739722833:=0
def tw4401782694824085189:=0
def tw1030430509970360685:=0
def tw17878900044791774204:=0
def tw10468704310940042054:=0
def tw3647919028255330834:=0
def tw8210370774390633817:=0
def tw1074610035871297387:=0
def tw2382582292103074941:=0
def tw4076607860010741423:=0
def tw18075333925849033817:=0
def tw11323062315833889254:=0
def tw7159705858777874884:=0
def tw17011361571237676265:=0
def tw3828640692854645486:=0
def tw3302844503224942984:=0
def tw2158258776465411522:=0
def tw14490603660608996344:=0
def tw13162295867558957343:=0
def tw4417917456086449114:=0
def tw691067242479306704:=0
def tw9867844366604251276:=0
def tw18249806211630171603:=0
def tw6877720709022112076:=0
def tw13189561090826919481:=0
def tw12532857495073926623:=0
def tw18126444924137434903:=0
def tw4826558262553609895:=0
def tw2444867741806532807:=0
def tw3126551457382307894:=0
def tw7502671406395935020:=0
def tw11667005344764301609:=0
def tw16501606265039930193:=0
def tw1850757592828454085:=0
def tw17541925191689443388:=0
def tw10700437916848524763:=0
def tw10996795649235653827:=0
def tw7119977835830261449:=0
def tw12747956881727409250:=0
def tw3387146586826150303:=0
def tw17759891775985312849:=0
def tw11641996742706855949:=0
def tw8306344555965591961:=0
def tw15105978725326414105:=0
def tw6285556224796234501:=0
def tw6997628340801464190:=0
def tw5316435265195428586:=0
def tw18209543369713406000:=0
def tw13579259961177533388:=0
end PySem.W.Fast
namespace K08
open PySem L2 BF
theorem all_mk {l:PySem.W.OpenLaw}{w:World}{K:PySem.W.Frag}{h:Heap}{mg:Str->Option Value}{fa CReckoning f1 f2 f3 f4 f5 f6 f7 f8 f9 f10 f11 f12 f13 f14 f15 f16 f17 f18 f19 f20 f21 f22 f23 f24 f25 f26 f27 f28 f29 f30 f31 f32 f33 f34 f35 f36 f37 f38 f39 f40 f41 f42 f43 f44 f45 f46:Addr}(X:K.In h) (G:h.Ns mainGlobals mg) (hfa:mg "law"=some (.ref fa))
    {od1 an1 od2 an2 od3 an3 od4 an4 od5 an5 od6 an6 od7 an7 od8 an8 od9 an9 od10 an10 od11 an11 od12 an12 od13 an13 od14 an14 od15 an15 od16 an16 od17 an17 od18 an18 od19 an19 od20 an20 od21 an21 od22 an22 od23 an23 od24 an24 od25 an25 od26 an26 od27 an27 od28 an28 od29 an29 od30 an30 od31 an31 od32 an32 od33 an33 od34 an34 od35 an35 od36 an36 od37 an37 od38 an38 od39 an39 od40 an40 od41 an41 od42 an42 od43 an43 od44 an44 od45 an45 od46 an46:Option Addr}{sl1 sl2 sl3 sl4 sl5 sl6 sl7 sl8 sl9 sl10 sl11 sl12 sl13 sl14 sl15 sl16 sl17 sl18 sl19 sl20 sl21 sl22 sl23 sl24 sl25 sl26 sl27 sl28 sl29 sl30 sl31 sl32 sl33 sl34 sl35 sl36 sl37 sl38 sl39 sl40 sl41 sl42 sl43 sl44 sl45 sl46:Array (Option Value)}{oc1 kV1 dc1 pm1 cd1 ct1 oc2 kV2 dc2 pm2 cd2 ct2 oc3 kV3 dc3 pm3 cd3 ct3 oc4 kV4 dc4 pm4 cd4 ct4 oc5 kV5 dc5 pm5 cd5 ct5 oc6 kV6 dc6 pm6 cd6 ct6 oc7 kV7 dc7 pm7 cd7 ct7 oc8 kV8 dc8 pm8 cd8 ct8 oc9 kV9 dc9 pm9 cd9 ct9 oc10 kV10 dc10 pm10 cd10 ct10 oc11 kV11 dc11 pm11 cd11 ct11 oc12 kV12 dc12 pm12 cd12 ct12 oc13 kV13 dc13 pm13 cd13 ct13 oc14 kV14 dc14 pm14 cd14 ct14 oc15 kV15 dc15 pm15 cd15 ct15 oc16 kV16 dc16 pm16 cd16 ct16 oc17 kV17 dc17 pm17 cd17 ct17 oc18 kV18 dc18 pm18 cd18 ct18 oc19 kV19 dc19 pm19 cd19 ct19 oc20 kV20 dc20 pm20 cd20 ct20 oc21 kV21 dc21 pm21 cd21 ct21 oc22 kV22 dc22 pm22 cd22 ct22 oc23 kV23 dc23 pm23 cd23 ct23 oc24 kV24 dc24 pm24 cd24 ct24 oc25 kV25 dc25 pm25 cd25 ct25 oc26 kV26 dc26 pm26 cd26 ct26 oc27 kV27 dc27 pm27 cd27 ct27 oc28 kV28 dc28 pm28 cd28 ct28 oc29 kV29 dc29 pm29 cd29 ct29 oc30 kV30 dc30 pm30 cd30 ct30 oc31 kV31 dc31 pm31 cd31 ct31 oc32 kV32 dc32 pm32 cd32 ct32 oc33 kV33 dc33 pm33 cd33 ct33 oc34 kV34 dc34 pm34 cd34 ct34 oc35 kV35 dc35 pm35 cd35 ct35 oc36 kV36 dc36 pm36 cd36 ct36 oc37 kV37 dc37 pm37 cd37 ct37 oc38 kV38 dc38 pm38 cd38 ct38 oc39 kV39 dc39 pm39 cd39 ct39 oc40 kV40 dc40 pm40 cd40 ct40 oc41 kV41 dc41 pm41 cd41 ct41 oc42 kV42 dc42 pm42 cd42 ct42 oc43 kV43 dc43 pm43 cd43 ct43 oc44 kV44 dc44 pm44 cd44 ct44 oc45 kV45 dc45 pm45 cd45 ct45 oc46 kV46 dc46 pm46 cd46 ct46:Value}
    (aCReckoning:PySem.W.nsIn K mainGlobals "Reckoning"=some (some (.ref CReckoning)))
    (a1:PySem.W.findIn K (.ref CReckoning) "__init__"=some (some (.ref f1)))
    (l1:K.lookup f1=some ⟨oc1,od1,.func (PySem.W.fnOf "__init__" "Reckoning.__init__" (defArgs s_Reckoning_init) (defBody s_Reckoning_init) (defScope s_Reckoning_init) .none kV1 dc1 pm1 an1 cd1 ct1),sl1⟩)
    (c1:PySem.W.codeIn K cd1 "Reckoning.__init__"=true)
    (k1:PySem.W.keepIn K (.ref f1)=true)
    (i1:PySem.W.isFn K (.ref f1)=true)
    (a2:PySem.W.findIn K (.ref CReckoning) "work_out"=some (some (.ref f2)))
    (l2:K.lookup f2=some ⟨oc2,od2,.func (PySem.W.fnOf "work_out" "Reckoning.work_out" (defArgs s_Reckoning_work_out) (defBody s_Reckoning_work_out) (defScope s_Reckoning_work_out) .none kV2 dc2 pm2 an2 cd2 ct2),sl2⟩)
    (c2:PySem.W.codeIn K cd2 "Reckoning.work_out"=true)
    (k2:PySem.W.keepIn K (.ref f2)=true)
    (i2:PySem.W.isFn K (.ref f2)=true)
    (a3:PySem.W.findIn K (.ref CReckoning) "led_together"=some (some (.ref f3)))
    (l3:K.lookup f3=some ⟨oc3,od3,.func (PySem.W.fnOf "led_together" "Reckoning.led_together" (defArgs s_Reckoning_led_together) (defBody s_Reckoning_led_together) (defScope s_Reckoning_led_together) .none kV3 dc3 pm3 an3 cd3 ct3),sl3⟩)
    (c3:PySem.W.codeIn K cd3 "Reckoning.led_together"=true)
    (k3:PySem.W.keepIn K (.ref f3)=true)
    (i3:PySem.W.isFn K (.ref f3)=true)
    (a4:PySem.W.findIn K (.ref CReckoning) "lead_on"=some (some (.ref f4)))
    (l4:K.lookup f4=some ⟨oc4,od4,.func (PySem.W.fnOf "lead_on" "Reckoning.lead_on" (defArgs s_Reckoning_lead_on) (defBody s_Reckoning_lead_on) (defScope s_Reckoning_lead_on) .none kV4 dc4 pm4 an4 cd4 ct4),sl4⟩)
    (c4:PySem.W.codeIn K cd4 "Reckoning.lead_on"=true)
    (k4:PySem.W.keepIn K (.ref f4)=true)
    (i4:PySem.W.isFn K (.ref f4)=true)
    (a5:PySem.W.findIn K (.ref CReckoning) "line_on"=some (some (.ref f5)))
    (l5:K.lookup f5=some ⟨oc5,od5,.func (PySem.W.fnOf "line_on" "Reckoning.line_on" (defArgs s_Reckoning_line_on) (defBody s_Reckoning_line_on) (defScope s_Reckoning_line_on) .none kV5 dc5 pm5 an5 cd5 ct5),sl5⟩)
    (c5:PySem.W.codeIn K cd5 "Reckoning.line_on"=true)
    (k5:PySem.W.keepIn K (.ref f5)=true)
    (i5:PySem.W.isFn K (.ref f5)=true)
    (a6:PySem.W.findIn K (.ref CReckoning) "line_to_end"=some (some (.ref f6)))
    (l6:K.lookup f6=some ⟨oc6,od6,.func (PySem.W.fnOf "line_to_end" "Reckoning.line_to_end" (defArgs s_Reckoning_line_to_end) (defBody s_Reckoning_line_to_end) (defScope s_Reckoning_line_to_end) .none kV6 dc6 pm6 an6 cd6 ct6),sl6⟩)
    (c6:PySem.W.codeIn K cd6 "Reckoning.line_to_end"=true)
    (k6:PySem.W.keepIn K (.ref f6)=true)
    (i6:PySem.W.isFn K (.ref f6)=true)
    (a7:PySem.W.findIn K (.ref CReckoning) "end_of"=some (some (.ref f7)))
    (l7:K.lookup f7=some ⟨oc7,od7,.func (PySem.W.fnOf "end_of" "Reckoning.end_of" (defArgs s_Reckoning_end_of) (defBody s_Reckoning_end_of) (defScope s_Reckoning_end_of) .none kV7 dc7 pm7 an7 cd7 ct7),sl7⟩)
    (c7:PySem.W.codeIn K cd7 "Reckoning.end_of"=true)
    (k7:PySem.W.keepIn K (.ref f7)=true)
    (i7:PySem.W.isFn K (.ref f7)=true)
    (a8:PySem.W.findIn K (.ref CReckoning) "between_ends"=some (some (.ref f8)))
    (l8:K.lookup f8=some ⟨oc8,od8,.func (PySem.W.fnOf "between_ends" "Reckoning.between_ends" (defArgs s_Reckoning_between_ends) (defBody s_Reckoning_between_ends) (defScope s_Reckoning_between_ends) .none kV8 dc8 pm8 an8 cd8 ct8),sl8⟩)
    (c8:PySem.W.codeIn K cd8 "Reckoning.between_ends"=true)
    (k8:PySem.W.keepIn K (.ref f8)=true)
    (i8:PySem.W.isFn K (.ref f8)=true)
    (a9:PySem.W.findIn K (.ref CReckoning) "part_lines"=some (some (.ref f9)))
    (l9:K.lookup f9=some ⟨oc9,od9,.func (PySem.W.fnOf "part_lines" "Reckoning.part_lines" (defArgs s_Reckoning_part_lines) (defBody s_Reckoning_part_lines) (defScope s_Reckoning_part_lines) .none kV9 dc9 pm9 an9 cd9 ct9),sl9⟩)
    (c9:PySem.W.codeIn K cd9 "Reckoning.part_lines"=true)
    (k9:PySem.W.keepIn K (.ref f9)=true)
    (i9:PySem.W.isFn K (.ref f9)=true)
    (a10:PySem.W.findIn K (.ref CReckoning) "turned"=some (some (.ref f10)))
    (l10:K.lookup f10=some ⟨oc10,od10,.func (PySem.W.fnOf "turned" "Reckoning.turned" (defArgs s_Reckoning_turned) (defBody s_Reckoning_turned) (defScope s_Reckoning_turned) .none kV10 dc10 pm10 an10 cd10 ct10),sl10⟩)
    (c10:PySem.W.codeIn K cd10 "Reckoning.turned"=true)
    (k10:PySem.W.keepIn K (.ref f10)=true)
    (i10:PySem.W.isFn K (.ref f10)=true)
    (a11:PySem.W.findIn K (.ref CReckoning) "chained"=some (some (.ref f11)))
    (l11:K.lookup f11=some ⟨oc11,od11,.func (PySem.W.fnOf "chained" "Reckoning.chained" (defArgs s_Reckoning_chained) (defBody s_Reckoning_chained) (defScope s_Reckoning_chained) .none kV11 dc11 pm11 an11 cd11 ct11),sl11⟩)
    (c11:PySem.W.codeIn K cd11 "Reckoning.chained"=true)
    (k11:PySem.W.keepIn K (.ref f11)=true)
    (i11:PySem.W.isFn K (.ref f11)=true)
    (a12:PySem.W.findIn K (.ref CReckoning) "added"=some (some (.ref f12)))
    (l12:K.lookup f12=some ⟨oc12,od12,.func (PySem.W.fnOf "added" "Reckoning.added" (defArgs s_Reckoning_added) (defBody s_Reckoning_added) (defScope s_Reckoning_added) .none kV12 dc12 pm12 an12 cd12 ct12),sl12⟩)
    (c12:PySem.W.codeIn K cd12 "Reckoning.added"=true)
    (k12:PySem.W.keepIn K (.ref f12)=true)
    (i12:PySem.W.isFn K (.ref f12)=true)
    (pgReckoning:PySem.W.plainGet K CReckoning Str.empty=true)
    (hdReckoning:PySem.W.hasDictIn K CReckoning=true)
    (poReckoning:PySem.W.plainOver K CReckoning=true)
    (saReckoning:PySem.W.findIn K (.ref CReckoning) "__setattr__"=some (some (.builtin "object.__setattr__")))
    (mkReckoning:PySem.W.makesIn K CReckoning=true)
    (kcReckoning:PySem.W.keepIn K (.ref CReckoning)=true)
    (nReckoning_lines:PySem.W.findIn K (.ref CReckoning) "lines"=some none)
    (nReckoning_onward:PySem.W.findIn K (.ref CReckoning) "onward"=some none)
    (nReckoning_clash:PySem.W.findIn K (.ref CReckoning) "clash"=some none)
    (a13:PySem.W.nsIn K mainGlobals "all_parts"=some (some (.ref f13)))
    (l13:K.lookup f13=some ⟨oc13,od13,.func (PySem.W.fnOf "all_parts" "all_parts" (defArgs s_all_parts) (defBody s_all_parts) (defScope s_all_parts) .none kV13 dc13 pm13 an13 cd13 ct13),sl13⟩)
    (c13:PySem.W.codeIn K cd13 "all_parts"=true)
    (k13:PySem.W.keepIn K (.ref f13)=true)
    (a14:PySem.W.nsIn K mainGlobals "blanks_of"=some (some (.ref f14)))
    (l14:K.lookup f14=some ⟨oc14,od14,.func (PySem.W.fnOf "blanks_of" "blanks_of" (defArgs s_blanks_of) (defBody s_blanks_of) (defScope s_blanks_of) .none kV14 dc14 pm14 an14 cd14 ct14),sl14⟩)
    (c14:PySem.W.codeIn K cd14 "blanks_of"=true)
    (k14:PySem.W.keepIn K (.ref f14)=true)
    (a15:PySem.W.nsIn K mainGlobals "head"=some (some (.ref f15)))
    (l15:K.lookup f15=some ⟨oc15,od15,.func (PySem.W.fnOf "head" "head" (defArgs s_head) (defBody s_head) (defScope s_head) .none kV15 dc15 pm15 an15 cd15 ct15),sl15⟩)
    (c15:PySem.W.codeIn K cd15 "head"=true)
    (k15:PySem.W.keepIn K (.ref f15)=true)
    (a16:PySem.W.nsIn K mainGlobals "same"=some (some (.ref f16)))
    (l16:K.lookup f16=some ⟨oc16,od16,.func (PySem.W.fnOf "same" "same" (defArgs s_same) (defBody s_same) (defScope s_same) .none kV16 dc16 pm16 an16 cd16 ct16),sl16⟩)
    (c16:PySem.W.codeIn K cd16 "same"=true)
    (k16:PySem.W.keepIn K (.ref f16)=true)
    (a17:PySem.W.nsIn K mainGlobals "replaced"=some (some (.ref f17)))
    (l17:K.lookup f17=some ⟨oc17,od17,.func (PySem.W.fnOf "replaced" "replaced" (defArgs s_replaced) (defBody s_replaced) (defScope s_replaced) .none kV17 dc17 pm17 an17 cd17 ct17),sl17⟩)
    (c17:PySem.W.codeIn K cd17 "replaced"=true)
    (k17:PySem.W.keepIn K (.ref f17)=true)
    (a18:PySem.W.nsIn K mainGlobals "taken"=some (some (.ref f18)))
    (l18:K.lookup f18=some ⟨oc18,od18,.func (PySem.W.fnOf "taken" "taken" (defArgs s_taken) (defBody s_taken) (defScope s_taken) .none kV18 dc18 pm18 an18 cd18 ct18),sl18⟩)
    (c18:PySem.W.codeIn K cd18 "taken"=true)
    (k18:PySem.W.keepIn K (.ref f18)=true)
    (a19:PySem.W.nsIn K mainGlobals "filling_of"=some (some (.ref f19)))
    (l19:K.lookup f19=some ⟨oc19,od19,.func (PySem.W.fnOf "filling_of" "filling_of" (defArgs s_filling_of) (defBody s_filling_of) (defScope s_filling_of) .none kV19 dc19 pm19 an19 cd19 ct19),sl19⟩)
    (c19:PySem.W.codeIn K cd19 "filling_of"=true)
    (k19:PySem.W.keepIn K (.ref f19)=true)
    (a20:PySem.W.nsIn K mainGlobals "shown"=some (some (.ref f20)))
    (l20:K.lookup f20=some ⟨oc20,od20,.func (PySem.W.fnOf "shown" "shown" (defArgs s_shown) (defBody s_shown) (defScope s_shown) .none kV20 dc20 pm20 an20 cd20 ct20),sl20⟩)
    (c20:PySem.W.codeIn K cd20 "shown"=true)
    (k20:PySem.W.keepIn K (.ref f20)=true)
    (a21:PySem.W.nsIn K mainGlobals "push_parts"=some (some (.ref f21)))
    (l21:K.lookup f21=some ⟨oc21,od21,.func (PySem.W.fnOf "push_parts" "push_parts" (defArgs s_push_parts) (defBody s_push_parts) (defScope s_push_parts) .none kV21 dc21 pm21 an21 cd21 ct21),sl21⟩)
    (c21:PySem.W.codeIn K cd21 "push_parts"=true)
    (k21:PySem.W.keepIn K (.ref f21)=true)
    (a22:PySem.W.nsIn K mainGlobals "shown_leaf"=some (some (.ref f22)))
    (l22:K.lookup f22=some ⟨oc22,od22,.func (PySem.W.fnOf "shown_leaf" "shown_leaf" (defArgs s_shown_leaf) (defBody s_shown_leaf) (defScope s_shown_leaf) .none kV22 dc22 pm22 an22 cd22 ct22),sl22⟩)
    (c22:PySem.W.codeIn K cd22 "shown_leaf"=true)
    (k22:PySem.W.keepIn K (.ref f22)=true)
    (a23:PySem.W.nsIn K mainGlobals "alike"=some (some (.ref f23)))
    (l23:K.lookup f23=some ⟨oc23,od23,.func (PySem.W.fnOf "alike" "alike" (defArgs s_alike) (defBody s_alike) (defScope s_alike) .none kV23 dc23 pm23 an23 cd23 ct23),sl23⟩)
    (c23:PySem.W.codeIn K cd23 "alike"=true)
    (k23:PySem.W.keepIn K (.ref f23)=true)
    (a24:PySem.W.nsIn K mainGlobals "lines_by_word"=some (some (.ref f24)))
    (l24:K.lookup f24=some ⟨oc24,od24,.func (PySem.W.fnOf "lines_by_word" "lines_by_word" (defArgs s_lines_by_word) (defBody s_lines_by_word) (defScope s_lines_by_word) .none kV24 dc24 pm24 an24 cd24 ct24),sl24⟩)
    (c24:PySem.W.codeIn K cd24 "lines_by_word"=true)
    (k24:PySem.W.keepIn K (.ref f24)=true)
    (a25:PySem.W.nsIn K mainGlobals "ends_by_word"=some (some (.ref f25)))
    (l25:K.lookup f25=some ⟨oc25,od25,.func (PySem.W.fnOf "ends_by_word" "ends_by_word" (defArgs s_ends_by_word) (defBody s_ends_by_word) (defScope s_ends_by_word) .none kV25 dc25 pm25 an25 cd25 ct25),sl25⟩)
    (c25:PySem.W.codeIn K cd25 "ends_by_word"=true)
    (k25:PySem.W.keepIn K (.ref f25)=true)
    (a26:PySem.W.nsIn K mainGlobals "settled"=some (some (.ref f26)))
    (l26:K.lookup f26=some ⟨oc26,od26,.func (PySem.W.fnOf "settled" "settled" (defArgs s_settled) (defBody s_settled) (defScope s_settled) .none kV26 dc26 pm26 an26 cd26 ct26),sl26⟩)
    (c26:PySem.W.codeIn K cd26 "settled"=true)
    (k26:PySem.W.keepIn K (.ref f26)=true)
    (a27:PySem.W.nsIn K mainGlobals "ready_words"=some (some (.ref f27)))
    (l27:K.lookup f27=some ⟨oc27,od27,.func (PySem.W.fnOf "ready_words" "ready_words" (defArgs s_ready_words) (defBody s_ready_words) (defScope s_ready_words) .none kV27 dc27 pm27 an27 cd27 ct27),sl27⟩)
    (c27:PySem.W.codeIn K cd27 "ready_words"=true)
    (k27:PySem.W.keepIn K (.ref f27)=true)
    (a28:PySem.W.nsIn K mainGlobals "words_ahead"=some (some (.ref f28)))
    (l28:K.lookup f28=some ⟨oc28,od28,.func (PySem.W.fnOf "words_ahead" "words_ahead" (defArgs s_words_ahead) (defBody s_words_ahead) (defScope s_words_ahead) .none kV28 dc28 pm28 an28 cd28 ct28),sl28⟩)
    (c28:PySem.W.codeIn K cd28 "words_ahead"=true)
    (k28:PySem.W.keepIn K (.ref f28)=true)
    (a29:PySem.W.nsIn K mainGlobals "ring_of"=some (some (.ref f29)))
    (l29:K.lookup f29=some ⟨oc29,od29,.func (PySem.W.fnOf "ring_of" "ring_of" (defArgs s_ring_of) (defBody s_ring_of) (defScope s_ring_of) .none kV29 dc29 pm29 an29 cd29 ct29),sl29⟩)
    (c29:PySem.W.codeIn K cd29 "ring_of"=true)
    (k29:PySem.W.keepIn K (.ref f29)=true)
    (a30:PySem.W.nsIn K mainGlobals "_law_whole"=some (some (.ref f30)))
    (l30:K.lookup f30=some ⟨oc30,od30,.func (PySem.W.fnOf "_law_whole" "_law_whole" (defArgs s_law_whole) (defBody s_law_whole) (defScope s_law_whole) .none kV30 dc30 pm30 an30 cd30 ct30),sl30⟩)
    (c30:PySem.W.codeIn K cd30 "_law_whole"=true)
    (k30:PySem.W.keepIn K (.ref f30)=true)
    (a31:PySem.W.nsIn K mainGlobals "_law_any_word"=some (some (.ref f31)))
    (l31:K.lookup f31=some ⟨oc31,od31,.func (PySem.W.fnOf "_law_any_word" "_law_any_word" (defArgs s_law_any_word) (defBody s_law_any_word) (defScope s_law_any_word) .none kV31 dc31 pm31 an31 cd31 ct31),sl31⟩)
    (c31:PySem.W.codeIn K cd31 "_law_any_word"=true)
    (k31:PySem.W.keepIn K (.ref f31)=true)
    (a32:PySem.W.nsIn K mainGlobals "_law_leaf"=some (some (.ref f32)))
    (l32:K.lookup f32=some ⟨oc32,od32,.func (PySem.W.fnOf "_law_leaf" "_law_leaf" (defArgs s_law_leaf) (defBody s_law_leaf) (defScope s_law_leaf) .none kV32 dc32 pm32 an32 cd32 ct32),sl32⟩)
    (c32:PySem.W.codeIn K cd32 "_law_leaf"=true)
    (k32:PySem.W.keepIn K (.ref f32)=true)
    (a33:PySem.W.nsIn K mainGlobals "_law_head"=some (some (.ref f33)))
    (l33:K.lookup f33=some ⟨oc33,od33,.func (PySem.W.fnOf "_law_head" "_law_head" (defArgs s_law_head) (defBody s_law_head) (defScope s_law_head) .none kV33 dc33 pm33 an33 cd33 ct33),sl33⟩)
    (c33:PySem.W.codeIn K cd33 "_law_head"=true)
    (k33:PySem.W.keepIn K (.ref f33)=true)
    (a34:PySem.W.nsIn K mainGlobals "_law_many_parts"=some (some (.ref f34)))
    (l34:K.lookup f34=some ⟨oc34,od34,.func (PySem.W.fnOf "_law_many_parts" "_law_many_parts" (defArgs s_law_many_parts) (defBody s_law_many_parts) (defScope s_law_many_parts) .none kV34 dc34 pm34 an34 cd34 ct34),sl34⟩)
    (c34:PySem.W.codeIn K cd34 "_law_many_parts"=true)
    (k34:PySem.W.keepIn K (.ref f34)=true)
    (a35:PySem.W.nsIn K mainGlobals "_law_called"=some (some (.ref f35)))
    (l35:K.lookup f35=some ⟨oc35,od35,.func (PySem.W.fnOf "_law_called" "_law_called" (defArgs s_law_called) (defBody s_law_called) (defScope s_law_called) .none kV35 dc35 pm35 an35 cd35 ct35),sl35⟩)
    (c35:PySem.W.codeIn K cd35 "_law_called"=true)
    (k35:PySem.W.keepIn K (.ref f35)=true)
    (a36:PySem.W.nsIn K mainGlobals "_law_steps"=some (some (.ref f36)))
    (l36:K.lookup f36=some ⟨oc36,od36,.func (PySem.W.fnOf "_law_steps" "_law_steps" (defArgs s_law_steps) (defBody s_law_steps) (defScope s_law_steps) .none kV36 dc36 pm36 an36 cd36 ct36),sl36⟩)
    (c36:PySem.W.codeIn K cd36 "_law_steps"=true)
    (k36:PySem.W.keepIn K (.ref f36)=true)
    (a37:PySem.W.nsIn K mainGlobals "_law_fill"=some (some (.ref f37)))
    (l37:K.lookup f37=some ⟨oc37,od37,.func (PySem.W.fnOf "_law_fill" "_law_fill" (defArgs s_law_fill) (defBody s_law_fill) (defScope s_law_fill) .none kV37 dc37 pm37 an37 cd37 ct37),sl37⟩)
    (c37:PySem.W.codeIn K cd37 "_law_fill"=true)
    (k37:PySem.W.keepIn K (.ref f37)=true)
    (a38:PySem.W.nsIn K mainGlobals "_law_blanks"=some (some (.ref f38)))
    (l38:K.lookup f38=some ⟨oc38,od38,.func (PySem.W.fnOf "_law_blanks" "_law_blanks" (defArgs s_law_blanks) (defBody s_law_blanks) (defScope s_law_blanks) .none kV38 dc38 pm38 an38 cd38 ct38),sl38⟩)
    (c38:PySem.W.codeIn K cd38 "_law_blanks"=true)
    (k38:PySem.W.keepIn K (.ref f38)=true)
    (a39:PySem.W.nsIn K mainGlobals "_law_hidden"=some (some (.ref f39)))
    (l39:K.lookup f39=some ⟨oc39,od39,.func (PySem.W.fnOf "_law_hidden" "_law_hidden" (defArgs s_law_hidden) (defBody s_law_hidden) (defScope s_law_hidden) .none kV39 dc39 pm39 an39 cd39 ct39),sl39⟩)
    (c39:PySem.W.codeIn K cd39 "_law_hidden"=true)
    (k39:PySem.W.keepIn K (.ref f39)=true)
    (a40:PySem.W.nsIn K mainGlobals "_law_letters"=some (some (.ref f40)))
    (l40:K.lookup f40=some ⟨oc40,od40,.func (PySem.W.fnOf "_law_letters" "_law_letters" (defArgs s_law_letters) (defBody s_law_letters) (defScope s_law_letters) .none kV40 dc40 pm40 an40 cd40 ct40),sl40⟩)
    (c40:PySem.W.codeIn K cd40 "_law_letters"=true)
    (k40:PySem.W.keepIn K (.ref f40)=true)
    (a41:PySem.W.nsIn K mainGlobals "_law_small"=some (some (.ref f41)))
    (l41:K.lookup f41=some ⟨oc41,od41,.func (PySem.W.fnOf "_law_small" "_law_small" (defArgs s_law_small) (defBody s_law_small) (defScope s_law_small) .none kV41 dc41 pm41 an41 cd41 ct41),sl41⟩)
    (c41:PySem.W.codeIn K cd41 "_law_small"=true)
    (k41:PySem.W.keepIn K (.ref f41)=true)
    (a42:PySem.W.nsIn K mainGlobals "_law_is_term"=some (some (.ref f42)))
    (l42:K.lookup f42=some ⟨oc42,od42,.func (PySem.W.fnOf "_law_is_term" "_law_is_term" (defArgs s_law_is_term) (defBody s_law_is_term) (defScope s_law_is_term) .none kV42 dc42 pm42 an42 cd42 ct42),sl42⟩)
    (c42:PySem.W.codeIn K cd42 "_law_is_term"=true)
    (k42:PySem.W.keepIn K (.ref f42)=true)
    (a43:PySem.W.nsIn K mainGlobals "_law_is_filling"=some (some (.ref f43)))
    (l43:K.lookup f43=some ⟨oc43,od43,.func (PySem.W.fnOf "_law_is_filling" "_law_is_filling" (defArgs s_law_is_filling) (defBody s_law_is_filling) (defScope s_law_is_filling) .none kV43 dc43 pm43 an43 cd43 ct43),sl43⟩)
    (c43:PySem.W.codeIn K cd43 "_law_is_filling"=true)
    (k43:PySem.W.keepIn K (.ref f43)=true)
    (a44:PySem.W.nsIn K mainGlobals "_law_good"=some (some (.ref f44)))
    (l44:K.lookup f44=some ⟨oc44,od44,.func (PySem.W.fnOf "_law_good" "_law_good" (defArgs s_law_good) (defBody s_law_good) (defScope s_law_good) .none kV44 dc44 pm44 an44 cd44 ct44),sl44⟩)
    (c44:PySem.W.codeIn K cd44 "_law_good"=true)
    (k44:PySem.W.keepIn K (.ref f44)=true)
    (a45:PySem.W.nsIn K mainGlobals "_law_room"=some (some (.ref f45)))
    (l45:K.lookup f45=some ⟨oc45,od45,.func (PySem.W.fnOf "_law_room" "_law_room" (defArgs s_law_room) (defBody s_law_room) (defScope s_law_room) .none kV45 dc45 pm45 an45 cd45 ct45),sl45⟩)
    (c45:PySem.W.codeIn K cd45 "_law_room"=true)
    (k45:PySem.W.keepIn K (.ref f45)=true)
    (a46:PySem.W.nsIn K mainGlobals "law"=some (some (.ref f46)))
    (l46:K.lookup f46=some ⟨oc46,od46,.func (PySem.W.fnOf "law" "law" (defArgs s_law) (defBody s_law) (defScope s_law) .none kV46 dc46 pm46 an46 cd46 ct46),sl46⟩)
    (c46:PySem.W.codeIn K cd46 "law"=true)
    (k46:PySem.W.keepIn K (.ref f46)=true)
    (qzTZ:PySem.W.nsIn K mainGlobals "zip"=some none)
    (qzTE:PySem.W.nsIn K mainGlobals "enumerate"=some none)
    (qzTS:PySem.W.nsIn K mainGlobals "sorted"=some none)
    (z_len:PySem.W.nsIn K mainGlobals "len"=some none)
    (z_abs:PySem.W.nsIn K mainGlobals "abs"=some none)
    (z_isinstance:PySem.W.nsIn K mainGlobals "isinstance"=some none)
    (z_int:PySem.W.nsIn K mainGlobals "int"=some none)
    (z_bool:PySem.W.nsIn K mainGlobals "bool"=some none)
    (z_str:PySem.W.nsIn K mainGlobals "str"=some none)
    (z_tuple:PySem.W.nsIn K mainGlobals "tuple"=some none)
    (z_list:PySem.W.nsIn K mainGlobals "list"=some none)
    (z_reversed:PySem.W.nsIn K mainGlobals "reversed"=some none)
    (z_range:PySem.W.nsIn K mainGlobals "range"=some none)
    : ∃ fd:FuncData,(∀ (s:Shared) (v:Value),BindsTo s fd ⟨[v],[]⟩ [("_law_script",v)])/\∀ base:Heap,K.In base->base.Ns mainGlobals mg->FnOk l.prog w K mg base CX0 9 fa fd ["_law_script"] (spLaw K):=by
  have e:=hfa.symm.trans (PySem.W.mg_of X G a46)
  cases e
  have F1:=fun_mk (st:=s_Reckoning_init) l1 c1 k1
  have b1:=F1.binds (ps:=["self","one","other"]) fun _ _ _ _ _ _ us hl=>match us,hl with | [_,_,_],_=>rfl
  have F2:=fun_mk (st:=s_Reckoning_work_out) l2 c2 k2
  have b2:=F2.binds (ps:=["self"]) fun _ _ _ _ _ _ us hl=>match us,hl with | [_],_=>rfl
  have F3:=fun_mk (st:=s_Reckoning_led_together) l3 c3 k3
  have b3:=F3.binds (ps:=["self","number"]) fun _ _ _ _ _ _ us hl=>match us,hl with | [_,_],_=>rfl
  have F4:=fun_mk (st:=s_Reckoning_lead_on) l4 c4 k4
  have b4:=F4.binds (ps:=["self","number"]) fun _ _ _ _ _ _ us hl=>match us,hl with | [_,_],_=>rfl
  have F5:=fun_mk (st:=s_Reckoning_line_on) l5 c5 k5
  have b5:=F5.binds (ps:=["self","term"]) fun _ _ _ _ _ _ us hl=>match us,hl with | [_,_],_=>rfl
  have F6:=fun_mk (st:=s_Reckoning_line_to_end) l6 c6 k6
  have b6:=F6.binds (ps:=["self","term"]) fun _ _ _ _ _ _ us hl=>match us,hl with | [_,_],_=>rfl
  have F7:=fun_mk (st:=s_Reckoning_end_of) l7 c7 k7
  have b7:=F7.binds (ps:=["self","term"]) fun _ _ _ _ _ _ us hl=>match us,hl with | [_,_],_=>rfl
  have F8:=fun_mk (st:=s_Reckoning_between_ends) l8 c8 k8
  have b8:=F8.binds (ps:=["self","number"]) fun _ _ _ _ _ _ us hl=>match us,hl with | [_,_],_=>rfl
  have F9:=fun_mk (st:=s_Reckoning_part_lines) l9 c9 k9
  have b9:=F9.binds (ps:=["self","number"]) fun _ _ _ _ _ _ us hl=>match us,hl with | [_,_],_=>rfl
  have F10:=fun_mk (st:=s_Reckoning_turned) l10 c10 k10
  have b10:=F10.binds (ps:=["self","number"]) fun _ _ _ _ _ _ us hl=>match us,hl with | [_,_],_=>rfl
  have F11:=fun_mk (st:=s_Reckoning_chained) l11 c11 k11
  have b11:=F11.binds (ps:=["self","number","further"]) fun _ _ _ _ _ _ us hl=>match us,hl with | [_,_,_],_=>rfl
  have F12:=fun_mk (st:=s_Reckoning_added) l12 c12 k12
  have b12:=F12.binds (ps:=["self","one","other","reason"]) fun _ _ _ _ _ _ us hl=>match us,hl with | [_,_,_,_],_=>rfl
  have F13:=fun_mk (st:=s_all_parts) l13 c13 k13
  have b13:=F13.binds (ps:=["term"]) fun _ _ _ _ _ _ us hl=>match us,hl with | [_],_=>rfl
  have g13:=PySem.W.mg_of X G a13
  have F14:=fun_mk (st:=s_blanks_of) l14 c14 k14
  have b14:=F14.binds (ps:=["term"]) fun _ _ _ _ _ _ us hl=>match us,hl with | [_],_=>rfl
  have g14:=PySem.W.mg_of X G a14
  have F15:=fun_mk (st:=s_head) l15 c15 k15
  have b15:=F15.binds (ps:=["term"]) fun _ _ _ _ _ _ us hl=>match us,hl with | [_],_=>rfl
  have g15:=PySem.W.mg_of X G a15
  have F16:=fun_mk (st:=s_same) l16 c16 k16
  have b16:=F16.binds (ps:=["one","other"]) fun _ _ _ _ _ _ us hl=>match us,hl with | [_,_],_=>rfl
  have g16:=PySem.W.mg_of X G a16
  have F17:=fun_mk (st:=s_replaced) l17 c17 k17
  have b17:=F17.binds (ps:=["term","terms"]) fun _ _ _ _ _ _ us hl=>match us,hl with | [_,_],_=>rfl
  have g17:=PySem.W.mg_of X G a17
  have F18:=fun_mk (st:=s_taken) l18 c18 k18
  have b18:=F18.binds (ps:=["made","count"]) fun _ _ _ _ _ _ us hl=>match us,hl with | [_,_],_=>rfl
  have g18:=PySem.W.mg_of X G a18
  have F19:=fun_mk (st:=s_filling_of) l19 c19 k19
  have b19:=F19.binds (ps:=["terms"]) fun _ _ _ _ _ _ us hl=>match us,hl with | [_],_=>rfl
  have g19:=PySem.W.mg_of X G a19
  have F20:=fun_mk (st:=s_shown) l20 c20 k20
  have b20:=F20.binds (ps:=["term"]) fun _ _ _ _ _ _ us hl=>match us,hl with | [_],_=>rfl
  have g20:=PySem.W.mg_of X G a20
  have F21:=fun_mk (st:=s_push_parts) l21 c21 k21
  have b21:=F21.binds (ps:=["coming","parts"]) fun _ _ _ _ _ _ us hl=>match us,hl with | [_,_],_=>rfl
  have g21:=PySem.W.mg_of X G a21
  have F22:=fun_mk (st:=s_shown_leaf) l22 c22 k22
  have b22:=F22.binds (ps:=["term"]) fun _ _ _ _ _ _ us hl=>match us,hl with | [_],_=>rfl
  have g22:=PySem.W.mg_of X G a22
  have F23:=fun_mk (st:=s_alike) l23 c23 k23
  have b23:=F23.binds (ps:=["one","other"]) fun _ _ _ _ _ _ us hl=>match us,hl with | [_,_],_=>rfl
  have g23:=PySem.W.mg_of X G a23
  have F24:=fun_mk (st:=s_lines_by_word) l24 c24 k24
  have b24:=F24.binds (ps:=["reckoning","words"]) fun _ _ _ _ _ _ us hl=>match us,hl with | [_,_],_=>rfl
  have g24:=PySem.W.mg_of X G a24
  have F25:=fun_mk (st:=s_ends_by_word) l25 c25 k25
  have b25:=F25.binds (ps:=["lines","numbers"]) fun _ _ _ _ _ _ us hl=>match us,hl with | [_,_],_=>rfl
  have g25:=PySem.W.mg_of X G a25
  have F26:=fun_mk (st:=s_settled) l26 c26 k26
  have b26:=F26.binds (ps:=["ends"]) fun _ _ _ _ _ _ us hl=>match us,hl with | [_],_=>rfl
  have g26:=PySem.W.mg_of X G a26
  have F27:=fun_mk (st:=s_ready_words) l27 c27 k27
  have b27:=F27.binds (ps:=["ends","terms"]) fun _ _ _ _ _ _ us hl=>match us,hl with | [_,_],_=>rfl
  have g27:=PySem.W.mg_of X G a27
  have F28:=fun_mk (st:=s_words_ahead) l28 c28 k28
  have b28:=F28.binds (ps:=["ends","terms","word"]) fun _ _ _ _ _ _ us hl=>match us,hl with | [_,_,_],_=>rfl
  have g28:=PySem.W.mg_of X G a28
  have F29:=fun_mk (st:=s_ring_of) l29 c29 k29
  have b29:=F29.binds (ps:=["ends","terms"]) fun _ _ _ _ _ _ us hl=>match us,hl with | [_,_],_=>rfl
  have g29:=PySem.W.mg_of X G a29
  have F30:=fun_mk (st:=s_law_whole) l30 c30 k30
  have b30:=F30.binds (ps:=["_law_found"]) fun _ _ _ _ _ _ us hl=>match us,hl with | [_],_=>rfl
  have g30:=PySem.W.mg_of X G a30
  have F31:=fun_mk (st:=s_law_any_word) l31 c31 k31
  have b31:=F31.binds (ps:=["_law_cell"]) fun _ _ _ _ _ _ us hl=>match us,hl with | [_],_=>rfl
  have g31:=PySem.W.mg_of X G a31
  have F32:=fun_mk (st:=s_law_leaf) l32 c32 k32
  have b32:=F32.binds (ps:=["_law_cell"]) fun _ _ _ _ _ _ us hl=>match us,hl with | [_],_=>rfl
  have g32:=PySem.W.mg_of X G a32
  have F33:=fun_mk (st:=s_law_head) l33 c33 k33
  have b33:=F33.binds (ps:=["_law_cell"]) fun _ _ _ _ _ _ us hl=>match us,hl with | [_],_=>rfl
  have g33:=PySem.W.mg_of X G a33
  have F34:=fun_mk (st:=s_law_many_parts) l34 c34 k34
  have b34:=F34.binds (ps:=["_law_cell","_law_count"]) fun _ _ _ _ _ _ us hl=>match us,hl with | [_,_],_=>rfl
  have g34:=PySem.W.mg_of X G a34
  have F35:=fun_mk (st:=s_law_called) l35 c35 k35
  have b35:=F35.binds (ps:=["_law_k"]) fun _ _ _ _ _ _ us hl=>match us,hl with | [_],_=>rfl
  have g35:=PySem.W.mg_of X G a35
  have F36:=fun_mk (st:=s_law_steps) l36 c36 k36
  have b36:=F36.binds (ps:=["_law_term"]) fun _ _ _ _ _ _ us hl=>match us,hl with | [_],_=>rfl
  have g36:=PySem.W.mg_of X G a36
  have F37:=fun_mk (st:=s_law_fill) l37 c37 k37
  have b37:=F37.binds (ps:=["_law_term","_law_pairs"]) fun _ _ _ _ _ _ us hl=>match us,hl with | [_,_],_=>rfl
  have g37:=PySem.W.mg_of X G a37
  have F38:=fun_mk (st:=s_law_blanks) l38 c38 k38
  have b38:=F38.binds (ps:=["_law_term"]) fun _ _ _ _ _ _ us hl=>match us,hl with | [_],_=>rfl
  have g38:=PySem.W.mg_of X G a38
  have F39:=fun_mk (st:=s_law_hidden) l39 c39 k39
  have b39:=F39.binds (ps:=["_law_cells","_law_many"]) fun _ _ _ _ _ _ us hl=>match us,hl with | [_,_],_=>rfl
  have g39:=PySem.W.mg_of X G a39
  have F40:=fun_mk (st:=s_law_letters) l40 c40 k40
  have b40:=F40.binds (ps:=["_law_found"]) fun _ _ _ _ _ _ us hl=>match us,hl with | [_],_=>rfl
  have g40:=PySem.W.mg_of X G a40
  have F41:=fun_mk (st:=s_law_small) l41 c41 k41
  have b41:=F41.binds (ps:=["_law_part"]) fun _ _ _ _ _ _ us hl=>match us,hl with | [_],_=>rfl
  have g41:=PySem.W.mg_of X G a41
  have F42:=fun_mk (st:=s_law_is_term) l42 c42 k42
  have b42:=F42.binds (ps:=["_law_found"]) fun _ _ _ _ _ _ us hl=>match us,hl with | [_],_=>rfl
  have g42:=PySem.W.mg_of X G a42
  have F43:=fun_mk (st:=s_law_is_filling) l43 c43 k43
  have b43:=F43.binds (ps:=["_law_found"]) fun _ _ _ _ _ _ us hl=>match us,hl with | [_],_=>rfl
  have g43:=PySem.W.mg_of X G a43
  have F44:=fun_mk (st:=s_law_good) l44 c44 k44
  have b44:=F44.binds (ps:=["_law_filling","_law_one","_law_other"]) fun _ _ _ _ _ _ us hl=>match us,hl with | [_,_,_],_=>rfl
  have g44:=PySem.W.mg_of X G a44
  have F45:=fun_mk (st:=s_law_room) l45 c45 k45
  have b45:=F45.binds (ps:=["_law_script","_law_most","_law_bound"]) fun _ _ _ _ _ _ us hl=>match us,hl with | [_,_,_],_=>rfl
  have g45:=PySem.W.mg_of X G a45
  have F46:=fun_mk (st:=s_law) l46 c46 k46
  have T:Bi mg:=⟨PySem.W.mg_none_of X G z_len,PySem.W.mg_none_of X G z_abs,PySem.W.mg_none_of X G z_isinstance,PySem.W.mg_none_of X G z_int,PySem.W.mg_none_of X G z_bool,PySem.W.mg_none_of X G z_str,PySem.W.mg_none_of X G z_tuple,PySem.W.mg_none_of X G z_list,PySem.W.mg_none_of X G z_reversed,PySem.W.mg_none_of X G z_range⟩
  refine ⟨PySem.W.fnOf "law" "law" (defArgs s_law) (defBody s_law) (defScope s_law) .none kV46 dc46 pm46 an46 cd46 ct46,fun s v=>.of_eq rfl,fun base _ _=>?_⟩
  have TZ:mg "zip"=none:=PySem.W.mg_none_of X G qzTZ
  have TE:mg "enumerate"=none:=PySem.W.mg_none_of X G qzTE
  have TS:mg "sorted"=none:=PySem.W.mg_none_of X G qzTS
  have R:RG K CReckoning:=⟨⟨pgReckoning,hdReckoning,poReckoning,saReckoning⟩,nReckoning_lines,nReckoning_onward,nReckoning_clash⟩
  have c__law_many_parts:Cal l.prog w K mg base 1 "_law_many_parts" ["_law_cell","_law_count"] spMany:=⟨_,_,ok_many F34 T,b34,k34,g34⟩
  have c__law_any_word:Cal l.prog w K mg base 1 "_law_any_word" ["_law_cell"] spWord:=⟨_,_,ok_any_word F31 T,b31,k31,g31⟩
  have c__law_leaf:Cal l.prog w K mg base 2 "_law_leaf" ["_law_cell"] spLeaf:=⟨_,_,ok_leaf F32 T c__law_any_word,b32,k32,g32⟩
  have c__law_head:Cal l.prog w K mg base 2 "_law_head" ["_law_cell"] spHead:=⟨_,_,ok_head F33 T c__law_any_word,b33,k33,g33⟩
  have c__law_called:Cal l.prog w K mg base 1 "_law_called" ["_law_k"] spCalled:=⟨_,_,ok_called F35 T,b35,k35,g35⟩
  have c__law_hidden:Cal l.prog w K mg base 3 "_law_hidden" ["_law_cells","_law_many"] (spHidden K):=⟨_,_,ok_hidden F39 T c__law_many_parts c__law_leaf c__law_head c__law_called,b39,k39,g39⟩
  have c__law_room:Cal l.prog w K mg base 1 "_law_room" ["_law_script","_law_most","_law_bound"] (spRoom K):=⟨_,_,ok_room F45 T,b45,k45,g45⟩
  have n_Reckoning:New l.prog w K mg base 1 CReckoning "Reckoning" ["self","one","other"] (spRkInit CReckoning):=⟨_,_,⟨mkReckoning,a1,i1,kcReckoning⟩,ok_rk_init F1 R,b1,PySem.W.mg_of X G aCReckoning⟩
  have c_head:Cal l.prog w K mg base 1 "head" ["term"] spHd:=⟨_,_,ok_hd F15 T,b15,k15,g15⟩
  have c_same:Cal l.prog w K mg base 2 "same" ["one","other"] spSame:=⟨_,_,ok_same F16 T TZ c_head,b16,k16,g16⟩
  have c_shown_leaf:Cal l.prog w K mg base 1 "shown_leaf" ["term"] spShownLeaf:=⟨_,_,ok_shown_leaf F22 T,b22,k22,g22⟩
  have c_push_parts:Cal l.prog w K mg base 1 "push_parts" ["coming","parts"] (spPush K):=⟨_,_,ok_push_parts F21 T,b21,k21,g21⟩
  have c_shown:Cal l.prog w K mg base 2 "shown" ["term"] spShown:=⟨_,_,ok_shown F20 T c_shown_leaf c_push_parts,b20,k20,g20⟩
  have m_line_on:Mtd l.prog w K mg base 3 CReckoning "line_on" ["self","term"] (spOn CReckoning):=⟨_,_,ok_line_on F5 R c_shown,b5,⟨a5,i5,k5⟩,R.cl⟩
  have m_added:Mtd l.prog w K mg base 1 CReckoning "added" ["self","one","other","reason"] (spAdded CReckoning):=⟨_,_,ok_added F12 R T,b12,⟨a12,i12,k12⟩,R.cl⟩
  have m_chained:Mtd l.prog w K mg base 2 CReckoning "chained" ["self","number","further"] (spChain CReckoning):=⟨_,_,ok_rk_chained F11 R m_added,b11,⟨a11,i11,k11⟩,R.cl⟩
  have m_lead_on:Mtd l.prog w K mg base 3 CReckoning "lead_on" ["self","number"] (spLead CReckoning):=⟨_,_,ok_lead_on F4 R c_shown,b4,⟨a4,i4,k4⟩,R.cl⟩
  have m_line_to_end:Mtd l.prog w K mg base 4 CReckoning "line_to_end" ["self","term"] (spToEnd CReckoning):=⟨_,_,ok_line_to_end F6 R T m_line_on m_chained m_lead_on,b6,⟨a6,i6,k6⟩,R.cl⟩
  have m_end_of:Mtd l.prog w K mg base 5 CReckoning "end_of" ["self","term"] (spEnd CReckoning):=⟨_,_,ok_end_of F7 R m_line_to_end,b7,⟨a7,i7,k7⟩,R.cl⟩
  have m_turned:Mtd l.prog w K mg base 2 CReckoning "turned" ["self","number"] (spTurned CReckoning):=⟨_,_,ok_turned F10 R m_added,b10,⟨a10,i10,k10⟩,R.cl⟩
  have m_between_ends:Mtd l.prog w K mg base 5 CReckoning "between_ends" ["self","number"] (spBetween CReckoning):=⟨_,_,ok_between_ends F8 R m_line_to_end m_turned m_chained,b8,⟨a8,i8,k8⟩,R.cl⟩
  have m_part_lines:Mtd l.prog w K mg base 2 CReckoning "part_lines" ["self","number"] (spPartL CReckoning):=⟨_,_,ok_part_lines F9 R T TZ TE m_added,b9,⟨a9,i9,k9⟩,R.cl⟩
  have m_led_together:Mtd l.prog w K mg base 6 CReckoning "led_together" ["self","number"] (spLed CReckoning):=⟨_,_,ok_led_together F3 R c_same c_head m_end_of m_between_ends m_lead_on m_turned m_part_lines,b3,⟨a3,i3,k3⟩,R.cl⟩
  have m_work_out:Mtd l.prog w K mg base 7 CReckoning "work_out" ["self"] (spWork CReckoning):=⟨_,_,ok_work_out F2 R m_led_together,b2,⟨a2,i2,k2⟩,R.cl⟩
  have c_lines_by_word:Cal l.prog w K mg base 5 "lines_by_word" ["reckoning","words"] (spLbw CReckoning):=⟨_,_,ok_lines_by_word F24 m_line_to_end,b24,k24,g24⟩
  have c_all_parts:Cal l.prog w K mg base 1 "all_parts" ["term"] spAll:=⟨_,_,ok_all_parts F13 T,b13,k13,g13⟩
  have c_blanks_of:Cal l.prog w K mg base 2 "blanks_of" ["term"] spBlanks:=⟨_,_,ok_blanks_of F14 T c_all_parts,b14,k14,g14⟩
  have c_ends_by_word:Cal l.prog w K mg base 1 "ends_by_word" ["lines","numbers"] spEbw:=⟨_,_,ok_ends_by_word F25,b25,k25,g25⟩
  have c_words_ahead:Cal l.prog w K mg base 3 "words_ahead" ["ends","terms","word"] spAhead:=⟨_,_,ok_words_ahead F28 c_blanks_of,b28,k28,g28⟩
  have c_ready_words:Cal l.prog w K mg base 4 "ready_words" ["ends","terms"] spReady:=⟨_,_,ok_ready_words F27 c_words_ahead,b27,k27,g27⟩
  have c_taken:Cal l.prog w K mg base 1 "taken" ["made","count"] spTaken:=⟨_,_,ok_taken F18 T,b18,k18,g18⟩
  have c_replaced:Cal l.prog w K mg base 2 "replaced" ["term","terms"] spRep:=⟨_,_,ok_replaced F17 T c_all_parts c_taken,b17,k17,g17⟩
  have c_settled:Cal l.prog w K mg base 5 "settled" ["ends"] spSettled:=⟨_,_,ok_settled F26 c_ready_words c_replaced,b26,k26,g26⟩
  have c_ring_of:Cal l.prog w K mg base 4 "ring_of" ["ends","terms"] spRingOf:=⟨_,_,ok_ring_of F29 c_words_ahead,b29,k29,g29⟩
  have c_filling_of:Cal l.prog w K mg base 1 "filling_of" ["terms"] spFof:=⟨_,_,ok_filling_of F19 TS,b19,k19,g19⟩
  have c_alike:Cal l.prog w K mg base 8 "alike" ["one","other"] spAlike:=⟨_,_,ok_alike F23 R T n_Reckoning m_work_out c_lines_by_word c_blanks_of c_ends_by_word c_settled c_ring_of c_filling_of,b23,k23,g23⟩
  have c__law_letters:Cal l.prog w K mg base 1 "_law_letters" ["_law_found"] spLetters:=⟨_,_,ok_letters F40 T,b40,k40,g40⟩
  have c__law_whole:Cal l.prog w K mg base 1 "_law_whole" ["_law_found"] spWhole:=⟨_,_,ok_whole F30 T,b30,k30,g30⟩
  have c__law_small:Cal l.prog w K mg base 2 "_law_small" ["_law_part"] spSmall:=⟨_,_,ok_small F41 T c__law_whole c__law_letters,b41,k41,g41⟩
  have c__law_is_term:Cal l.prog w K mg base 3 "_law_is_term" ["_law_found"] spIsTerm:=⟨_,_,ok_is_term F42 T c__law_small c__law_letters,b42,k42,g42⟩
  have c__law_is_filling:Cal l.prog w K mg base 4 "_law_is_filling" ["_law_found"] spIsFill:=⟨_,_,ok_is_filling F43 T c__law_letters c__law_is_term,b43,k43,g43⟩
  have c__law_steps:Cal l.prog w K mg base 1 "_law_steps" ["_law_term"] spSteps:=⟨_,_,ok_steps F36 T,b36,k36,g36⟩
  have c__law_blanks:Cal l.prog w K mg base 2 "_law_blanks" ["_law_term"] spBlanks:=⟨_,_,ok_blanks F38 T c__law_steps,b38,k38,g38⟩
  have c__law_fill:Cal l.prog w K mg base 2 "_law_fill" ["_law_term","_law_pairs"] spFill:=⟨_,_,ok_fill F37 T c__law_steps,b37,k37,g37⟩
  have c__law_good:Cal l.prog w K mg base 5 "_law_good" ["_law_filling","_law_one","_law_other"] spGood:=⟨_,_,ok_good F44 T c__law_is_filling c__law_blanks c__law_fill,b44,k44,g44⟩
  exact ok_law F46 T c__law_hidden c__law_room c_alike c__law_good c__law_blanks c__law_fill
theorem walk {l:PySem.W.OpenLaw}{q:Program}{loose:List Str}{XP:(Str->Option Value)->Heap->Prop}{YP:World->Heap->Prop}{d:DefRec}{K:Params->PySem.W.Frag}(hn:l.most=some 63) (hdf:d.params.defaults=[])
    (hY:∀ (w:World) (h:Heap),YP w h->(K w.params).In h)
    (F:∀ (w:World) (mg:Str->Option Value) (fa:Addr) (h:Heap),(K w.params).In h->h.Ns mainGlobals mg->mg d.name=some (.ref fa) ->
      ∃ fd:FuncData,(∀ (s:Shared) (u:Value),BindsTo s fd ⟨[u],[]⟩ [("_law_script",u)])/\∀ base:Heap,(K w.params).In base->base.Ns mainGlobals mg->FnOk l.prog w (K w.params) mg base CX0 9 fa fd ["_law_script"] (spLaw (K w.params))) :
    PySem.W.WalkO q loose XP YP l.row.toRowW d [] (fun f vs=>PySem.call f vs) :=
  L2.walk_of (n:=63) (k:=9) (x:="_law_script") (CX:=fun _=>CX0) (sp:=fun w=>spLaw (K w.params)) hn (by decide) hdf ⟨rfl,by decide,by decide⟩ hY F (fun _ _ a ns hl _ hS=>⟨a,ns,rfl,hS,hl,fun _=>rfl⟩) fun _ _ _ _ _ z=>z
end K08
open PySem PySem.W PyProof.Rows
set_option maxRecDepth 100000 in
set_option maxHeartbeats 0 in
theorem PySem.Challenge.cw_blankform_k08_whole_best_filling_holds : PySem.Challenge.rw_blankform_k08_whole_best_filling.Holds := by
  w_on;o_law;k_head;(case hw=>w_witness2)
  k_fill
  refine K08.walk (l:=PySem.Challenge.rw_blankform_k08_whole_best_filling) rfl rfl (fun w h Y=>PySem.W.kIn_of Y) ?F
  case F =>
    intro w mg fa h KX G hmg
    refine' K08.all_mk KX G hmg ?aCReckoning ?a1 ?l1 ?c1 ?k1 ?i1 ?a2 ?l2 ?c2 ?k2 ?i2 ?a3 ?l3 ?c3 ?k3 ?i3 ?a4 ?l4 ?c4 ?k4 ?i4 ?a5 ?l5 ?c5 ?k5 ?i5 ?a6 ?l6 ?c6 ?k6 ?i6 ?a7 ?l7 ?c7 ?k7 ?i7 ?a8 ?l8 ?c8 ?k8 ?i8 ?a9 ?l9 ?c9 ?k9 ?i9 ?a10 ?l10 ?c10 ?k10 ?i10 ?a11 ?l11 ?c11 ?k11 ?i11 ?a12 ?l12 ?c12 ?k12 ?i12 ?pgReckoning ?hdReckoning ?poReckoning ?saReckoning ?mkReckoning ?kcReckoning ?nReckoning_lines ?nReckoning_onward ?nReckoning_clash ?a13 ?l13 ?c13 ?k13 ?a14 ?l14 ?c14 ?k14 ?a15 ?l15 ?c15 ?k15 ?a16 ?l16 ?c16 ?k16 ?a17 ?l17 ?c17 ?k17 ?a18 ?l18 ?c18 ?k18 ?a19 ?l19 ?c19 ?k19 ?a20 ?l20 ?c20 ?k20 ?a21 ?l21 ?c21 ?k21 ?a22 ?l22 ?c22 ?k22 ?a23 ?l23 ?c23 ?k23 ?a24 ?l24 ?c24 ?k24 ?a25 ?l25 ?c25 ?k25 ?a26 ?l26 ?c26 ?k26 ?a27 ?l27 ?c27 ?k27 ?a28 ?l28 ?c28 ?k28 ?a29 ?l29 ?c29 ?k29 ?a30 ?l30 ?c30 ?k30 ?a31 ?l31 ?c31 ?k31 ?a32 ?l32 ?c32 ?k32 ?a33 ?l33 ?c33 ?k33 ?a34 ?l34 ?c34 ?k34 ?a35 ?l35 ?c35 ?k35 ?a36 ?l36 ?c36 ?k36 ?a37 ?l37 ?c37 ?k37 ?a38 ?l38 ?c38 ?k38 ?a39 ?l39 ?c39 ?k39 ?a40 ?l40 ?c40 ?k40 ?a41 ?l41 ?c41 ?k41 ?a42 ?l42 ?c42 ?k42 ?a43 ?l43 ?c43 ?k43 ?a44 ?l44 ?c44 ?k44 ?a45 ?l45 ?c45 ?k45 ?a46 ?l46 ?c46 ?k46 ?qzTZ ?qzTE ?qzTS ?z_len ?z_abs ?z_isinstance ?z_int ?z_bool ?z_str ?z_tuple ?z_list ?z_reversed ?z_range
    all_goals try (first | k_is | k_exc | kit_is | kts_exm)
#print axioms PySem.Challenge.cw_blankform_k08_whole_best_filling_holds
