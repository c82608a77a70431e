import Derived.Test.YtppkmifkpjkgpaaGreatDoorE10FracQ
import Derived.Deep.Slices
import Derived.KernelRfl
import Derived.Test.YtppkmifkpjkgpaaGreatDoorRows
import Derived.ProofKit
import Derived.OpenShut
import Derived.Carry
import Derived.Lib.LaidTab
import Derived.Shelf.LaysM
import Derived.Deep.RegionLaw
import Derived.Deep.Upon
import Derived.Laws.OwnMore
namespace Go.Proofs.YtppkmifkpjkgpaaGreatDoor
open Go.RowKit
open Go.Proofs.Tryz
set_option linter.unusedSimpArgs false
set_option linter.unusedVariables false
set_option maxHeartbeats 8000000
set_option maxRecDepth 1000000
structure Glob (w:Vz):Prop where
 most:∃m,w.cell? ⟨4,0,none⟩=some (.int .i64 m)
 tab:Tab w
theorem Glob.below{w w':Vz}(h:Glob w)(a:Bl w w'):Glob w':=by
 obtain⟨m,b⟩:=h.most;exact⟨⟨m,ce a (World.block_lt_of_cell? _ _ b) b⟩,h.tab.below a⟩
structure FE where
 x:Value
 y:Value
 z:Value
 q:Rat
 k:Nat
structure FBag (w0 w:Vz) (L:List FE):Prop where
 base:Bl w0 w
 glob:Glob w0
 ts:∀t,t∈ L->FracV w (.agg #[t.x,t.y,t.z]) t.q/\Fits t.q t.k/\0<t.k
theorem FBag.start{w:Vz}(h:Glob w):FBag w w []:=⟨Below.refl _ _,h,fun t a=>by cases a⟩
theorem FBag.below{w0 w w':Vz}{L:List FE}(h:FBag w0 w L)(a:Bl w w'):FBag w0 w' L:=
 ⟨h.base.trans (a.mono h.base.size),h.glob,fun t b=>⟨(h.ts t b).1.below a,(h.ts t b).2⟩⟩
theorem FBag.drew{w0 w:Vz}{L:List FE}(h:FBag w0 w L):FBag w0 w.drew L:=h.below bR.drew
theorem FBag.globNow{w0 w:Vz}{L:List FE}(h:FBag w0 w L):Glob w:=h.glob.below h.base
theorem FBag.get{w0 w:Vz}{L:List FE}{x y z:Value}{q:Rat}{k:Nat}(h:FBag w0 w L)(a:⟨x,y,z,q,k⟩∈ L):FracV w (.agg #[x,y,z]) q/\Fits q k/\0<k:=h.ts _ a
theorem FBag.put{w0 w:Vz}{L:List FE}{x y z:Value}{q:Rat}{k:Nat}(h:FBag w0 w L)(b:FracV w (.agg #[x,y,z]) q)(c:Fits q k)(hk:0<k):FBag w0 w (⟨x,y,z,q,k⟩ :: L):=
 ⟨h.base,h.glob,fun t a=>by
   rcases List.mem_cons.1 a with rfl|a
   . exact⟨b,c,hk⟩
   . exact h.ts t a⟩
theorem FBag.only{w0 w w':Vz}{L:List FE}{g:Nat}{t:Vr}{C:Vw}(h:FBag w0 w L)(a:Only g w w')(hs:SB w g t C)(c:NoU64 C)(d:w0.heap.size<=g):FBag w0 w' L:=
 ⟨Only.fresh h.base a d,h.glob,fun t b=>⟨(h.ts t b).1.only a hs c,(h.ts t b).2⟩⟩
theorem FBag.from{w0 b w:Vz}{L M:List FE}(h:FBag b w L)(c:Bl w0 b)(d:Glob w0)(e:∀t,t∈ M->∃k,⟨t.x,t.y,t.z,t.q,k⟩∈ L/\k<=t.k):FBag w0 w M:=by
 refine⟨c.trans (h.base.mono c.size),d,fun t f=>?_⟩;obtain⟨k,hk,a⟩:=e t f;have:=h.ts _ hk;exact⟨this.1,this.2.1.mono a,Nat.lt_of_lt_of_le this.2.2 a⟩
def FNewB(w0:Vz)(L:List FE)(q:Rat)(k:Nat)(e:Ending)(w':Vz):Prop:=∃x y z,e=.returned (.agg #[x,y,z])/\FBag w0 w' (⟨x,y,z,q,k⟩ :: L)
theorem FBag.new{w0 w w':Vz}{L:List FE}{q:Rat}{k:Nat}{e:Ending}(h:FBag w0 w L)(f:FNew w q e w')(g:Fits q k)(hk:0<k):FNewB w0 L q k e w':=by
 obtain⟨⟨v,rfl,neg,a,n,c,b,m,d,rfl,i⟩,j⟩:=f;exact⟨_,_,_,rfl,(h.below j).put ⟨neg,a,n,c,b,m,d,rfl,i⟩ g hk⟩
theorem FBag.minus{w0 w:Vz}{L:List FE}{x1 x2 x3 y1 y2 y3:Value}{j k:Nat}{p q:Rat}(h:FBag w0 w L)(a:⟨x1,x2,x3,p,j⟩∈ L)(b:⟨y1,y2,y3,q,k⟩∈ L)(f:j+k<68719476000):
 Calls prog 101 #[.agg #[x1,x2,x3],.agg #[y1,y2,y3]] w (FNewB w0 L (p - q) (j+k+1)):=by
 obtain⟨a,c,i⟩:=h.get a;obtain⟨b,d,l⟩:=h.get b;exact(Qbj a b c d f).mono fun e w' g=>h.new g (c.sub d) (by omega)
theorem Fits.div{p q:Rat}{j k:Nat}(h:Fits p j)(b:Fits q k)(c:0<j)(hk:0<k):Fits (p / q) (j+k):=by
 by_cases a:q=0
 . rw[a,Rat.div_def,Rat.inv_zero,Rat.mul_zero];exact Fits.zero.mono (by omega)
 . rw[Rat.div_def];exact h.mul (b.inv a) c
theorem FBag.equal{w0 w:Vz}{L:List FE}{x1 x2 x3 y1 y2 y3:Value}{j k:Nat}{p q:Rat}(h:FBag w0 w L)(a:⟨x1,x2,x3,p,j⟩∈ L)(b:⟨y1,y2,y3,q,k⟩∈ L):
 Calls prog 158 #[.agg #[x1,x2,x3],.agg #[y1,y2,y3]] w (fun e w'=>e=.returned (.bool (decide (p=q)))/\FBag w0 w' L):=by
 obtain⟨a,d,f⟩:=h.get a;obtain⟨b,g,i⟩:=h.get b;refine(Qpg a b).mono ?_;rintro e w' ⟨rfl,c⟩;exact⟨rfl,h.below c⟩
theorem FBag.of{w0 w:Vz}{L:List FE}{n:Nat}(s:Vs)(h:FBag w0 w L)(hs:s.size<=n)(d:n<=1073741824):
 Calls prog 82 #[.string s] w (fun e w'=>∃q,QOf s.data.toList q/\FNewB w0 L q (4*n+1) e w'):=by
 obtain⟨m,b⟩:=h.globNow.most;refine(Qj9 s m w b (by omega)).mono ?_;rintro e w' ⟨q,a,c⟩;exact⟨q,a,h.new c (a.fits (by rw[Qag];exact hs)) (by omega)⟩
theorem Qih{C:Vw}(h:∀v,v∈ C.toList->∀n,v≠Value.int .u64 n):NoU64 C:=fun i n a=>h _ (by rw[<-Array.getElem?_toList] at a;exact mO a) n rfl
theorem Qao(P:Program){v:Value}(h:v.oneCell'=true):∀(a:Addr) (w:Vz),(store a v).run P w=stored P w a v .plain:=fun a w=>run_store P w a v .plain h
theorem FracV.one{w:Vz}{x y z:Value}{q:Rat}(h:FracV w (.agg #[x,y,z]) q):x.oneCell'=true/\y.oneCell'=true/\z.oneCell'=true:=by
 obtain⟨neg,a,n,c,b,m,d,e,_⟩:=h;simp at e;obtain⟨rfl,rfl,rfl⟩:=e;exact⟨rfl,rfl,rfl⟩
theorem FracV.no64{w:Vz}{x y z:Value}{q:Rat}(h:FracV w (.agg #[x,y,z]) q)(n:Int):x≠.int .u64 n/\y≠.int .u64 n/\z≠.int .u64 n:=by
 obtain⟨neg,a,m,c,b,k,d,e,_⟩:=h;simp at e;obtain⟨rfl,rfl,rfl⟩:=e;exact⟨by simp,by simp,by simp⟩
theorem Tryz.spotInfo:(prog.info? 56).map (·.size)=some 2:=by kernel_rfl
open Go
section
variable {P:Program} {ops:Array Oper} {Q:Exit->Act->World->Prop} {md:Region.Mode} {S:World->Prop} {k:Nat}
def AnyBut(P:Program)(md:Region.Mode)(ops:Array Oper)(Q:Exit->Act->World->Prop)(S:World->Prop)(k:Nat):Nat->Array Bool->Act->World->Prop
 |0,listed,a,w=>Region.ready md ops listed= []/\Q .normal a w
 |fuel+1,listed,a,w=>(Region.ready md ops listed= []->Q .normal a w)/\∀i∈ Region.ready md ops listed,wpOp P ops Q i (fun a' w'=>(i≠k->S w')/\AnyBut P md ops Q S k fuel (listed.setIfInBounds i true) a' w') a w
theorem AnyBut.any:∀(b:Nat) (c:Array Bool) (a:Act) (w:Vz),AnyBut P md ops Q S k b c a w->wpAny P md ops Q b c a w
 |0,_,_,_,h=>h
 |b+1,_,_,_,h=>⟨h.1,fun i d=>wpOp_mono (fun e w' f=>AnyBut.any b _ e w' f.2) (h.2 i d)⟩
def waits(md:Region.Mode)(ops:Array Oper)(k i:Nat):Bool:=match ops[k]? with
 |some o=>o.after.any (fun e=>Region.binds md e && (e.on == i))
 |none=>false
theorem Qdh{i:Nat}(h:waits md ops k i=true){o:Oper}(b:ops[k]?=some o):¬∀e∈ o.after,Region.binds md e=true->e.on≠i:=by
 unfold waits at h;rw[b] at h;simp only[Array.any_eq_true] at h;obtain⟨j,c,a⟩:=h;simp only[Bool.and_eq_true,beq_iff_eq] at a;intro d;exact d _ (Array.getElem_mem c) a.1 a.2
theorem AnyBut.first{i:Nat}{t:Oper}{v:Value}(J:ops[i]?=some t)(q:∀(j:Nat) (o:Oper) z b,ops[j]?=some o->o.op≠.select z b)
 (T:∀c a w,Q (.panic c) (a.put t.dst v) w->Q (.panic c) a w) (hk:waits md ops k i=true):
 ∀(f:Nat) (d:Array Bool) (a:Act) (w:Vz),
  (∀j u,ops[j]?=some u->j≠i->d.getD j true=false->(∀e∈ u.after,Region.binds md e=true->e.on≠i)->t.apart ops u=true)->
  i∈ Region.ready md ops d->YieldsIf P ops S t v a->S w->
  AnyBut P md ops Q S k f (d.setIfInBounds i true) (a.put t.dst v) w->AnyBut P md ops Q S k (f+1) d a w:=by
 intro f
 induction f with
 |zero=>
  intro d a w _ x F A H;refine⟨fun h=>(by rw[h] at x;cases x),fun j G=>?_⟩;by_cases g:j=i
  . subst g;exact F.wpOp J A ⟨fun _=>A,H⟩
  .
   have:=ready_mono G g;rw[H.1] at this;cases this
 |succ f U=>
  intro d a w l x F A H;refine⟨fun h=>(by rw[h] at x;cases x),fun j G=>?_⟩;by_cases g:j=i
  . subst g;exact F.wpOp J A ⟨fun _=>A,H⟩
  .
   have y:=H.2 j (ready_mono G g);obtain⟨r,u,n,B⟩:=mem_ready.1 G;have s:∀e∈ u.after,Region.binds md e=true->e.on≠i:=fun e V W K=>by
    have y:=B e V W;have R:=(mem_ready.1 x).1;rw[K] at y;rcases Nat.lt_or_ge i d.size with L|L
    . simp[L] at R y;rw[R] at y;cases y
    . simp[Array.getElem?_eq_none L] at y
   have M:j≠k:=fun e=>Qdh hk (by rw[<-e];exact n) s
   have X:=wpOp_putIf n (l j u n g r s) (fun z b=>q i t z b J) (fun z b=>q j u z b n) T F y;have p:∀m C,ops[m]?=some C->m≠i->(d.setIfInBounds j true).getD m true=false->
    (∀e∈ C.after,Region.binds md e=true->e.on≠i)->t.apart ops C=true:=fun m C Y N D O=>by
    refine l m C Y N ?_ O;by_cases E:j=m
    . subst E;exact r
    . rw[_root_.Go.getD_set_ne true E] at D;exact D
   refine wpOp_mono (fun Z w' I=>⟨I.2.1,U (d.setIfInBounds j true) Z w' p (ready_mono x (Ne.symm g)) I.1 (I.2.1 M) ?_⟩) X;rw[Array.setIfInBounds_comm _ _ g];exact I.2.2
theorem AnyBut.take{i:Nat}{e:Oper}{v:Value}{d:Nat}{b:Array Bool}{a:Act}{w:Vz}(f:ops[i]?=some e)
 (hs:Region.noSelect ops=true) (g:Region.free md ops b i=true) (j:(Region.ready md ops b).contains i=true) (hk:waits md ops k i=true)
 (l:∀c a w,Q (.panic c) (a.put e.dst v) w->Q (.panic c) a w) (m:YieldsIf P ops S e v a) (n:S w)
 (h:AnyBut P md ops Q S k d (b.setIfInBounds i true) (a.put e.dst v) w):AnyBut P md ops Q S k (d+1) b a w:=
 AnyBut.first f (Region.noSelect_spec hs) l hk d b a w (Region.free_spec f g) (by simpa using j) m n h
theorem AnyBut.one{i:Nat}{o:Oper}{c:Nat}{b:Array Bool}{a:Act}{w:Vz}(d:Region.ready md ops b= [i])(g:ops[i]?=some o)
 (h:∀K':Act->World->Prop,Shut (∀a w,(i≠k->S w)->AnyBut P md ops Q S k c (b.setIfInBounds i true) a w->K' a w)->if Region.wanted o (yielded ops a.tmps)=true then Oper.wp P o a w K' Q else K' (a.put o.dst undef) w):AnyBut P md ops Q S k (c+1) b a w:=by
 refine⟨(fun e=>by rw[d] at e;cases e),fun j f=>?_⟩;rw[d] at f;obtain rfl:=List.mem_singleton.1 f;exact wpOp_step g (fun K' l=>h K' (fun a w m n=>l a w ⟨m,n⟩))
theorem AnyBut.done{b:Array Bool}{a:Act}{w:Vz}(d:Region.ready md ops b= [])(h:Q .normal a w):∀c,AnyBut P md ops Q S k c b a w
 |0=>⟨d,h⟩
 |_+1=>⟨fun _=>h,by rw[d];simp⟩
theorem AnyBut.begin{id:Nat}{a:Act}{w:Vz}(b:P.follows .mixedOrders=true)
 (h:AnyBut P .any ops Q S k ops.size (Array.replicate ops.size false) a w.drew):(Code.region id ops true).wp P Q a w:=
 wp_region_any b (AnyBut.any _ _ _ _ h)
end
theorem Qdl(s t:Vs)(w:Vz):Calls prog 29 #[.string s,.string t] w fun e w'=>e=.returned (.agg #[.string s,.string t])/\Bl w w':=by
 have a:=Hi ((Below.refl w.heap.size w).alloc lZ (.cells #[.string s,.string t] 56));go_enter func29,ntmps29;go_wp2;refine bodyPost_ret (results_cell_row rfl _ _ w.heap.size 56 #[.string s,.string t] (0,0) _ rfl (SB.new w _ _) underlying56 rfl Tryz.spotInfo) rfl ?_;exact⟨rfl,a.o⟩
theorem Qco:prog.cellsOf 54=1:=by kernel_rfl
theorem Qgv:prog.cellsOf 56=2:=by kernel_rfl
section
variable {H:Type} {enc:TypeId × Value->H} {P:Program} {w:Vz} {base:Nat} {spare:Nat->Bool} {held:Bool} {fuel:Nat} {cs:Vv} {x:DataW H × List MemPlace} {tF tS tQ:Vr} {f0 f1 g0 g1:Field}
theorem Qky(g:P.underlying tS=some (.struct #[f0,f1]))(e:P.underlying tQ=some .string)(i:P.cellsOf tS=2)(f:P.cellsOf tQ=1)(t0:f0.type=tQ)(t1:f1.type=tQ)(j:f0.offset=0)(k:f1.offset=1)
 (h:DataW.trod enc P w base spare held fuel tS cs=some x):
 ∃s t:Vs,cs= [.string s,.string t]/\x.1=.agg [.lit (.string s.data.toList),.lit (.string t.data.toList)]/\x.2= []:=by
 obtain⟨xs,n,rfl,rfl,hl,a,b⟩:=DataW.trod_struct g h;rw[i] at hl;clear h;have c:=b 0 f0 rfl;have d:=b 1 f1 rfl;rw[t0,j,f] at c;rw[t1,k,f] at d;clear b
 match cs,hl,xs,a with
 | [v0,v1],_,[y0,y1],_=>
   simp only[List.drop_zero,List.drop_succ_cons,List.take_succ_cons,List.take_zero,List.getElem?_cons_zero,List.getElem?_cons_succ] at c d;obtain⟨s,l,rfl,_⟩:=DataW.trod_string e c;obtain⟨t,m,rfl,_⟩:=DataW.trod_string e d;obtain rfl:v0=_:=by simpa using l
   obtain rfl:v1=_:=by simpa using m
   exact⟨s,t,rfl,rfl,rfl⟩
end
open Go.ChangeShapes Go.WideShapes Go.ChangeAt Go.RowKit
theorem own:ownKnob prog.godebug=none:=by kernel_rfl
theorem Qun:laidOutB prog=true:=by kernel_rfl
theorem Qgy{H:Type}{d:DataW H}{l:List (DataW H)}(h:d∈ l):Rows.uptoBulk d<=Rows.uptoBulkAll l:=by
 induction l with
 |nil=>cases h
 |cons x r a=>
  simp only[Rows.uptoBulkAll];rcases List.mem_cons.1 h with rfl|h
  . omega
  . have:=a h;omega
theorem Quo{H:Type}(l r:List (DataW H)):Rows.uptoBulkAll l<=Rows.uptoBulk (.slice l r):=by
 simp only[Rows.uptoBulk];omega
theorem Qbd{P:Program}{W:Vz}{x:String × DataW Unit}{l:List (String × DataW Unit)}(h:laidMet P (x :: l) W):laidMet P l W:=by
 obtain⟨i,⟨g,t,j,c,p,q,_,_,_,_,hl,rfl⟩,d,e⟩:=h;exact⟨q,hl,(List.nodup_append.1 d).2.1,fun b a f=>e b a (List.mem_append.2 (.inr f))⟩
theorem gTen:prog.globalNamed "internal/strconv.uint64pow10" =some 9:=by kernel_rfl
theorem Qup:(prog.globals[9]?).map (·.type)=some 276:=by kernel_rfl
theorem Quq:prog.cellsOf 276=20:=by kernel_rfl
theorem Qur:prog.cellsOf 170=1:=by kernel_rfl
theorem Qus:(Rows.laid_internal_strconv_uint64pow10:DataW Unit)=Lib.tabData .u64 Lib.pow10Tab:=by kernel_rfl
theorem Qut{W:Vz}{rest:List (String × DataW Unit)}(h:laidMet prog (("internal/strconv.uint64pow10",Rows.laid_internal_strconv_uint64pow10) :: rest) W):Tab W:=by
 rw[Qus] at h;exact Lib.tabIs_of_head gTen Qup underlying276 underlying170 Qur Quq h
theorem Quu{W:Vz}(h:W.ShapedOpen prog):∃m,W.cell? ⟨4,0,none⟩=some (.int .i64 m):=
 cell_of_shapedOpen_int (zero:=#[.int .i64 0]) (t:=3) h (of_decide_eq_true (by kernel_rfl)) (by kernel_rfl) rfl (by kernel_rfl) (by kernel_rfl) underlying3
def flat1:DataW Unit->List Value
 | .lit (.int k z)=>[.int k z]
 | .lit (.string bs)=>[.string ⟨bs.toArray⟩]
 |_=>[]
def flat2:DataW Unit->List Value
 | .agg ps=>ps.flatMap flat1
 |d=>flat1 d
def flat3:DataW Unit->List Value
 | .agg ps=>ps.flatMap flat2
 |d=>flat1 d
def put(g:Nat)(d:DataW Unit)(w:Vz):World:={ w with heap:=w.heap.modify g fun
 | .cells _ t frozen=>.cells (flat3 d).toArray t frozen
 |o=>o }
structure CRow (w:Vz) (a:Vx) (xs:Vv):Prop where
 cell:∀j u,xs[j]?=some u->∃b off,a=some ⟨b,off,none⟩/\b<w.heap.size/\w.cell? ⟨b,off+j,none⟩=some u
theorem CRow.below{w w':Vz}{a:Vx}{xs:Vv}(h:CRow w a xs)(d:Bl w w'):CRow w' a xs:=by
 refine⟨fun j u f=>?_⟩;obtain⟨b,c,g,k,l⟩:=h.cell j u f;exact⟨b,c,g,by have:=d.size;omega,ce d k l⟩
section
variable {P:Program} {t e:Vr} {i:TypeInfo} {size:Nat}
theorem Qja(b a j:Nat):Addr.add ⟨b,a,none⟩ j=⟨b,a+j,none⟩:=by
 unfold Addr.add;by_cases c:j=0<;>simp[c]
theorem Qp8(p:P.underlying t=some (.slice e))(s:P.info? e=some i)(k:i.size=size)(x:0<size){w:Vz}{g c d n cap:Nat}{a:Vx}{xs:Vv}
 (f:w.ownsRow d e size (.slice (some ⟨g,0,none⟩) 0 c) 0 []) (v:CRow w a xs) (hl:xs.length=n*size) (y:∀u∈ xs,u.oneCell'=true) (q:n<=c) (ty:Vr):
 ∃w',(Builtin.append_ #[t,t] ty #[.slice (some ⟨g,0,none⟩) 0 c,.slice a n cap]).run P w=.ok (.slice (some ⟨g,0,none⟩) n c) w'/\w'.ownsRow d e size (.slice (some ⟨g,0,none⟩) n c) n xs/\w.grownBy w' (some g):=by
 cases a with
 |none=>
  have o:xs= []:=by
   cases xs with
   |nil=>rfl
   |cons u l=>
    obtain⟨b,r,h,_⟩:=v.cell 0 u rfl;cases h
  subst o;have z:n=0:=by
   rcases Nat.eq_zero_or_pos n with h|h
   . exact h
   .
    have:=Nat.mul_pos h x;simp at hl;omega
  subst z;have hs:Src P i.size t (.slice none 0 cap) 0 [] w:=Src.ofNil w p cap;exact⟨w,run_append_nothing w t t ty e i p s _ 0 c (Nat.zero_le _) _ hs,f,⟨rfl,rfl,rfl,Nat.le_refl _,fun _ _ _=>rfl⟩⟩
 |some ad=>
  have m:∀j u,xs[j]?=some u->w.cell? (ad.add j)=some u:=by
   intro j u A;obtain⟨b,r,h,_,B⟩:=v.cell j u A;cases h;rw[Qja];exact B
  have:=run_append_fits w d t ty e i size p s k g 0 c [] f ad n cap xs hl m y (by omega)
  simpa using this
theorem Qa4{b:Array Oper}{o:Oper}{a:Act}{w:Vz}{K:Act->World->Prop}{Q:Exit->Act->World->Prop}{E:Prop}
 (f:o.guard=none) (s x:Operand) (d:o.op=Op.call { callee:=Callee.builtin Builtin.append,args:=#[s,x],argTypes:=#[t,t] })
 {vs vx v:Value} {w':Vz} (hs:a.eval s=vs) (g:a.eval x=vx) (c:(Builtin.append_ #[t,t] o.type #[vs,vx]).run P w=.ok v w') (h:K (a.put o.dst v) w'):
 if Region.wanted o (yielded b a.tmps)=true then Oper.wp P o a w K Q else E:=by
 have j:Region.wanted o (yielded b a.tmps)=true:=by simp[Region.wanted,f]
 rw[if_pos j];unfold Oper.wp;simp[execOp,d,resolve,invoke,builtin,hs,g,c,Result.andThen];exact h
theorem Qba(p:P.underlying t=some (.slice e))(q:P.info? e=some i)(d:i.size=size)(r:0<size){k:Array Oper}{o:Oper}{a:Act}{w:Vz}{K:Act->World->Prop}{Q:Exit->Act->World->Prop}{E:Prop}
 (v:o.guard=none) (s x:Operand) (l:o.op=Op.call { callee:=Callee.builtin Builtin.append,args:=#[s,x],argTypes:=#[t,t] })
 {g c n cap:Nat} (b:Nat) {m:Vx} {xs:Vv} (hs:a.eval s=.slice (some ⟨g,0,none⟩) 0 c) (y:a.eval x=.slice m n cap)
 (h:w.ownsRow b e size (.slice (some ⟨g,0,none⟩) 0 c) 0 []) (z:CRow w m xs) (hl:xs.length=n*size) (A:∀u∈ xs,u.oneCell'=true) (f:n<=c)
 (B:∀w',w'.ownsRow b e size (.slice (some ⟨g,0,none⟩) n c) n xs->w.grownBy w' (some g)->K (a.put o.dst (.slice (some ⟨g,0,none⟩) n c)) w'):
 if Region.wanted o (yielded k a.tmps)=true then Oper.wp P o a w K Q else E:=by
 obtain⟨w',j,C,D⟩:=Qp8 p q d r (cap:=cap) h z hl A f o.type;exact Qa4 v s x l hs y j (B w' C D)
theorem Qcf(r:P.underlying t=some (.slice e))(v:P.info? e=some i)(d:i.size=size){l:Array Oper}{o:Oper}{a:Act}{w:Vz}{K:Act->World->Prop}{Q:Exit->Act->World->Prop}{E:Prop}
 (y:o.guard=none) (s x:Operand) (p:o.op=Op.call { callee:=Callee.builtin Builtin.append,args:=#[s,x],argTypes:=#[t,t] })
 {g c n m cap q:Nat} (b:Nat) {xs news:Vv} (hs:a.eval s=.slice (some ⟨g,0,none⟩) n c) (z:a.eval x=.slice (some ⟨q,0,none⟩) m cap)
 (h:w.ownsRow b e size (.slice (some ⟨g,0,none⟩) n c) n xs) (hl:news.length=m*size) (A:∀j u,news[j]?=some u->w.cell? ⟨q,j,none⟩=some u) (B:∀u∈ news,u.oneCell'=true) (f:n+m<=c)
 (C:∀w',w'.ownsRow b e size (.slice (some ⟨g,0,none⟩) (n+m) c) (n+m) (xs++news)->w.grownBy w' (some g)->K (a.put o.dst (.slice (some ⟨g,0,none⟩) (n+m) c)) w'):
 if Region.wanted o (yielded l a.tmps)=true then Oper.wp P o a w K Q else E:=by
 obtain⟨w',k,D,F⟩:=run_append_fits w b t o.type e i size r v d g n c xs h ⟨q,0,none⟩ m cap news hl (fun j u G=>by rw[Qja];simpa using A j u G) B f;exact Qa4 y s x p hs z k (C w' D F)
end
theorem Below.ofGrown{B:Nat}{a w w':Vz}{g:Nat}(h:Below B a w)(b:w.grownBy w' (some g))(hB:B<=w.heap.size)(c:B<=g):Below B a w':=
 h.grown b hB (fun k hk=>by cases hk;exact c)
theorem Qcg{w w':Vz}{g:Nat}(b:w.grownBy w' (some g)){p:Addr}(c:p.block<w.heap.size)(a:p.block≠g):w'.cell? p=w.cell? p:=
 World.cell?_of_block (b.block p.block c (by simpa using a))
theorem Qf0{w:Vz}{a e size g n c:Nat}{xs:Vv}(h:w.ownsRow a e size (.slice (some ⟨g,0,none⟩) n c) n xs):CRow w (some ⟨g,0,none⟩) xs:=by
 refine⟨fun j u b=>⟨g,0,rfl,(h.lt g rfl).2,?_⟩⟩;have hl:=h.1;have d:=(gZ b).1;rw[Nat.zero_add,h.cellAt j (by omega)];exact b
theorem CRow.left{w:Vz}{a:Vx}{xs c:Vv}(h:CRow w a (xs++c)):CRow w a xs:=by
 refine⟨fun j u b=>h.cell j u ?_⟩;rw[List.getElem?_append_left (gZ b).1];exact b
structure S2 where
 x:ByteArray
 y:ByteArray
structure B6 where
 a:Int
 b:Int
 c:ByteArray
 e:ByteArray
 l:ByteArray
 m:ByteArray
structure H3 where
 j:Int
 w:Int
 q:ByteArray
structure L3 where
 j:Int
 x:ByteArray
 y:ByteArray
def S2.cells(s:S2):List Value:=[.string s.x,.string s.y]
def B6.cells(s:B6):List Value:=[.int .i64 s.a,.int .i64 s.b,.string s.c,.string s.e,.string s.l,.string s.m]
def H3.cells(s:H3):List Value:=[.int .i64 s.j,.int .i64 s.w,.string s.q]
def L3.cells(s:L3):List Value:=[.int .i64 s.j,.string s.x,.string s.y]
theorem S2.one(s:S2):∀u∈ s.cells,u.oneCell'=true:=by simp[S2.cells,Value.oneCell']
theorem B6.one(s:B6):∀u∈ s.cells,u.oneCell'=true:=by simp[B6.cells,Value.oneCell']
theorem H3.one(s:H3):∀u∈ s.cells,u.oneCell'=true:=by simp[H3.cells,Value.oneCell']
structure ARow {α:Type} (c:α->List Value) (w:Vz) (a:Vx) (cap:Nat) (es:List α):Prop where
 fit:es.length<=cap
 row:CRow w a (es.flatMap c)
section
variable {α:Type} {c:α->List Value} {sz:Nat}
theorem ARow.below{w w':Vz}{a:Vx}{cap:Nat}{b:List α}(h:ARow c w a cap b)(d:Bl w w'):ARow c w' a cap b:=⟨h.fit,h.row.below d⟩
theorem ARow.left{w:Vz}{a:Vx}{cap:Nat}{b d:List α}(h:ARow c w a cap (b++d)):ARow c w a cap b:=by
 refine⟨?_,?_⟩
 .
  have:=h.fit;simp at this;omega
 .
  have:=h.row;rw[List.flatMap_append] at this;exact this.left
theorem Qa9(b:∀e,(c e).length=sz)(a:List α):(a.flatMap c).length=a.length*sz:=by
 induction a with
 |nil=>simp
 |cons e l d=>rw[List.flatMap_cons,List.length_append,d,b,List.length_cons,Nat.succ_mul];omega
theorem Qfo(a:∀e,∀u∈ c e,u.oneCell'=true)(b:List α):∀u∈ b.flatMap c,u.oneCell'=true:=by
 intro u d;obtain⟨e,_,h⟩:=List.mem_flatMap.1 d;exact a e u h
theorem Qcb(a:∀e,(c e).length=sz):∀(b:List α) (i:Nat) (e:α) (j:Nat) (u:Value),b[i]?=some e->(c e)[j]?=some u->(b.flatMap c)[i*sz+j]?=some u
 | [],i,e,j,u,h,_=>by simp at h
 |g :: l,0,e,j,u,h,hj=>by
  obtain rfl:g=e:=by simpa using h
  rw[List.flatMap_cons,Nat.zero_mul,Nat.zero_add,List.getElem?_append_left (gZ hj).1];exact hj
 |g :: l,i+1,e,j,u,h,hj=>by
  have:=Qcb a l i e j u (by simpa using h) hj;rw[List.flatMap_cons,List.getElem?_append_right (by rw[a,Nat.succ_mul];omega),a,show (i+1)*sz+j - sz=i*sz+j by rw[Nat.succ_mul];omega];exact this
theorem ARow.at(l:∀e,(c e).length=sz)(p:0<sz){w:Vz}{a:Vx}{cap:Nat}{k:List α}(h:ARow c w a cap k){i:Nat}{e:α}(m:k[i]?=some e):
 ∃b d,a=some ⟨b,d,none⟩/\b<w.heap.size/\∀j u,(c e)[j]?=some u->w.cell? ⟨b,d+i*sz+j,none⟩=some u:=by
 have q:∃u,(c e)[0]?=some u:=⟨_,gE (by rw[l];exact p)⟩;obtain⟨u,r⟩:=q;obtain⟨b,d,n,s,_⟩:=h.row.cell _ _ (Qcb l k i e 0 u m r);refine⟨b,d,n,s,fun j v t=>?_⟩;obtain⟨x,o,g,_,f⟩:=h.row.cell _ _ (Qcb l k i e j v m t);rw[n] at g;cases g;rw[Nat.add_assoc];exact f
end
theorem ARow.spot{w:Vz}{a:Vx}{cap:Nat}{f:List S2}(h:ARow S2.cells w a cap f){i:Nat}{e:S2}(j:f[i]?=some e):
 ∃b d,a=some ⟨b,d,none⟩/\b<w.heap.size/\w.cell? ⟨b,d+i*2,none⟩=some (.string e.x)/\w.cell? ⟨b,d+i*2+1,none⟩=some (.string e.y):=by
 obtain⟨b,d,k,l,g⟩:=h.at (sz:=2) (fun _=>rfl) (by decide) j;exact⟨b,d,k,l,g 0 _ rfl,g 1 _ rfl⟩
theorem ARow.bar{w:Vz}{a:Vx}{cap:Nat}{g:List B6}(h:ARow B6.cells w a cap g){i:Nat}{e:B6}(j:g[i]?=some e):
 ∃b d,a=some ⟨b,d,none⟩/\b<w.heap.size/\w.cell? ⟨b,d+i*6,none⟩=some (.int .i64 e.a)/\w.cell? ⟨b,d+i*6+1,none⟩=some (.int .i64 e.b)/\w.cell? ⟨b,d+i*6+2,none⟩=some (.string e.c)/\w.cell? ⟨b,d+i*6+3,none⟩=some (.string e.e)/\w.cell? ⟨b,d+i*6+4,none⟩=some (.string e.l)/\w.cell? ⟨b,d+i*6+5,none⟩=some (.string e.m):=by
 obtain⟨b,d,k,n,f⟩:=h.at (sz:=6) (fun _=>rfl) (by decide) j;exact⟨b,d,k,n,f 0 _ rfl,f 1 _ rfl,f 2 _ rfl,f 3 _ rfl,f 4 _ rfl,f 5 _ rfl⟩
theorem ARow.hold{w:Vz}{a:Vx}{cap:Nat}{g:List H3}(h:ARow H3.cells w a cap g){i:Nat}{e:H3}(k:g[i]?=some e):
 ∃b d,a=some ⟨b,d,none⟩/\b<w.heap.size/\w.cell? ⟨b,d+i*3,none⟩=some (.int .i64 e.j)/\w.cell? ⟨b,d+i*3+1,none⟩=some (.int .i64 e.w)/\w.cell? ⟨b,d+i*3+2,none⟩=some (.string e.q):=by
 obtain⟨b,d,l,m,f⟩:=h.at (sz:=3) (fun _=>rfl) (by decide) k;exact⟨b,d,l,m,f 0 _ rfl,f 1 _ rfl,f 2 _ rfl⟩
theorem ARow.load{w:Vz}{a:Vx}{cap:Nat}{g:List L3}(h:ARow L3.cells w a cap g){i:Nat}{e:L3}(k:g[i]?=some e):
 ∃b d,a=some ⟨b,d,none⟩/\b<w.heap.size/\w.cell? ⟨b,d+i*3,none⟩=some (.int .i64 e.j)/\w.cell? ⟨b,d+i*3+1,none⟩=some (.string e.x)/\w.cell? ⟨b,d+i*3+2,none⟩=some (.string e.y):=by
 obtain⟨b,d,l,m,f⟩:=h.at (sz:=3) (fun _=>rfl) (by decide) k;exact⟨b,d,l,m,f 0 _ rfl,f 1 _ rfl,f 2 _ rfl⟩
theorem Qjb:(prog.info? 56).map (fun i=>(i.zero,i.size,i.bytes))=some (some (.agg #[.string ⟨#[]⟩,.string ⟨#[]⟩]),2,32):=by kernel_rfl
theorem Qp9(n:Nat)(f:n<=1048576):∃a:Vw,a.size=(n+3)*2/\∀w,(Instr.makeSlice 22 (.int .i64 0) (.int .i64 (IntKind.i64.wrap ((n:Int)+3)))).run prog w=.ok (.slice (some ⟨w.heap.size,0,none⟩) 0 (n+3)) (w.alloc (.cells a 56)):=by
 obtain⟨i,b,h⟩:=Option.map_eq_some_iff.1 Qjb;simp only[Prod.mk.injEq] at h;obtain⟨c,hs,d⟩:=h;refine⟨madeCells (Value.cells (.agg #[.string ⟨#[]⟩,.string ⟨#[]⟩])) ((n+3)*2),size_madeCells _ _,fun w=>?_⟩;have:=run_make w 22 56 i _ underlying22 b c .i64 .i64 0 ((n:Int)+3) (by omega) (by omega) (by rw[d];omega) (by omega);have e:((n:Int)+3).toNat=n+3:=by omega
 rw[e,hs] at this;rw[show IntKind.i64.wrap ((n:Int)+3)=(n:Int)+3 by rw[IntKind.wrap_i64];omega];exact this
theorem Qqa(a:Vx)(cap:Nat)(t:List S2)(d:Vs)(f:Vs)(w:Vz)(hf:ARow S2.cells w a cap t)(hn:t.length<=1048576):
 Calls prog 30 #[.slice a t.length cap,.agg #[.string d,.string f]] w fun e w'=>∃g,w.heap.size<=g/\e=.returned (.slice (some ⟨g,0,none⟩) t.length (t.length+3))/\ARow S2.cells w' (some ⟨g,0,none⟩) (t.length+3) (t++ [⟨d,f⟩,⟨d,f⟩,⟨d,f⟩])/\Bl w w':=by
 have HC:=Hi hf.row;obtain⟨G,M,ak⟩:=Qp9 t.length hn;have ad:=Hi M;obtain⟨i,hi,h⟩:=Option.map_eq_some_iff.1 Qjb;simp only[Prod.mk.injEq] at h;obtain⟨hz,hs,hb⟩:=h;obtain⟨N,P,A,B⟩:=Ic hi hs (Qa9 (c:=S2.cells) (sz:=2) (fun _=>rfl) t) (Qfo S2.one t);obtain⟨xs,H⟩:=nm (t.flatMap S2.cells);rw[H] at HC A B;have ae:=Hi H;clear hz hb hi hs M hf H;go_enter func30,ntmps30;go_wp2_with fail;obtain⟨W,hW⟩:=nm (w.alloc (.cells #[.string d,.string f] 56));have x:=Ua hW;have C:SB W w.heap.size 56 #[.string d,.string f]:=by rw[<-hW];exact SB.new w _ _
 rw[hW];have al:=C.lt;obtain⟨Q,c1,-⟩:=zc C;have r:=Hi C;clear C hW;obtain⟨E,y⟩:∃E:Vv,E= [.string d,.string f,.string d,.string f,.string d,.string f]:=⟨_,rfl⟩;have af:=Hi y;have I:∀(X:Vz) (j:Nat) (u:Value),E[j]?=some u->(X.alloc (.cells #[.string d,.string f,.string d,.string f,.string d,.string f] 56)).cell? ⟨X.heap.size,j,none⟩=some u:=by
  intro X j u F;rw[(SB.new X 56 #[.string d,.string f,.string d,.string f,.string d,.string f]).cell j];rw[y] at F
  simpa using F
 have R:=Hi I;have S:O (E.length=3*2):=Hi (by rw[y];rfl);have T:O (∀u∈ E,u.oneCell'=true):=Hi (by rw[y];simp[Value.oneCell']);have J:=Hi (HC.o.below x.o);have z:∀X:Vz,W.heap.size<=X.heap.size->(X.alloc (.cells G 56)).ownsRow W.heap.size 56 2 (.slice (some ⟨X.heap.size,0,none⟩) 0 (t.length+3)) 0 []:=fun X hX=>World.ownsRow_made X G (t.length+3) hX (by unfold maxLen;omega) ad.o
 have U:=Hi z;have K:O (Bl W (W.alloc (.cells G 56)).drew):=Hi (bR.alloc lZ _).drew;have V:O (Bl W ((W.alloc (.cells #[.string d,.string f,.string d,.string f,.string d,.string f] 56)).alloc (.cells G 56)).drew):=Hi (((bR.alloc lZ _).alloc (by simp) _).drew);have ag:O (((W.alloc (.cells #[.string d,.string f,.string d,.string f,.string d,.string f] 56)).alloc (.cells G 56)).drew.ownsRow W.heap.size 56 2 (.slice (some ⟨W.heap.size+1,0,none⟩) 0 (t.length+3)) 0 []):=Hi (by
  have:=z (W.alloc (.cells #[.string d,.string f,.string d,.string f,.string d,.string f] 56)) (by simp);simp only[World.size_alloc] at this
  exact this)
 have ah:=Hi (J.o.below V.o);have ai:=Hi (fun j u F=>by
  have h1:=I W j u F;have h2:Below (W.alloc (.cells #[.string d,.string f,.string d,.string f,.string d,.string f] 56)).heap.size _ _:=(Below.refl _ (W.alloc (.cells #[.string d,.string f,.string d,.string f,.string d,.string f] 56))).alloc lZ (.cells G 56)
  exact ce h2.drew (by simp) h1)
 clear y I z;go_region_held3 (fun w'=>w'.cell? ⟨w.heap.size,0,none⟩=some (.string d)/\w'.cell? ⟨w.heap.size,1,none⟩=some (.string f)) ((first|(simp [*];done)|go_keep)) (first
  |(
   refine Qba underlying22 N.o P.o (by decide) rfl (.tmp 9) (.tmp 10) rfl W.heap.size (xs:=xs) rfl rfl (U.o W lZ) (J.o.below K.o) A.o B.o (by omega) ?_;intro L k b;have D:=Hi k;have Y:W.heap.size<L.heap.size:=by have:=b.size;simp at this;omega
   have s:=Hi (Below.ofGrown K.o b K.o.size lZ);obtain⟨Q,c1,-⟩:=zc (r.o.below s.o r.o.lt)
   clear k b)
  |(
   refine Qcf underlying22 N.o P.o rfl (.tmp 11) (.tmp 15) rfl W.heap.size (xs:=xs) (news:=E) (n:=t.length) (m:=3) rfl rfl (D.o.alloc _) S.o (R.o L) T.o lZ ?_;intro w2 l q;have Z:=Hi l;have aj:L.heap.size<w2.heap.size:=by have:=q.size;simp at this;omega
   have v:=Below.ofGrown (s.o.alloc s.o.size _) q (by have:=s.o.size;simp;omega) lZ;obtain⟨Q,c1,-⟩:=zc (r.o.below v r.o.lt);have aa:=Hi (x.o.trans (v.mono x.o.size))
   clear l q v)
  |(
   refine Qba underlying22 N.o P.o (by decide) rfl (.tmp 9) (.tmp 10) rfl W.heap.size (xs:=xs) rfl rfl ((U.o W lZ).alloc (.cells #[.string d,.string f,.string d,.string f,.string d,.string f] 56)) (J.o.below (K.o.alloc K.o.size _)) A.o B.o (by omega) ?_;intro L k b;have D:=Hi k;have Y:W.heap.size<L.heap.size:=by have:=b.size;simp at this;omega
   have s:=Hi (Below.ofGrown (K.o.alloc K.o.size _) b (by simp<;>omega) lZ);obtain⟨Q,c1,-⟩:=zc (r.o.below s.o r.o.lt);have ab:=Hi (fun j u F=>(Qcg b (p:=⟨W.heap.size+1,j,none⟩) (by simp<;>omega) (by simp<;>omega)).trans (by simpa using R.o (W.alloc (.cells G 56)) j u F))
   clear k b)
  |(
   refine Qba underlying22 N.o P.o (by decide) rfl (.tmp 9) (.tmp 10) rfl W.heap.size (xs:=xs) (g:=W.heap.size+1) rfl rfl (ag.o) (ah.o) A.o B.o (by omega) ?_;intro L k b;have D:=Hi k;have Y:W.heap.size<L.heap.size:=by have:=b.size;simp at this;omega
   have s:=Hi (Below.ofGrown V.o b (by simp<;>omega) (by omega));obtain⟨Q,c1,-⟩:=zc (r.o.below s.o r.o.lt);have ab:=Hi (fun j u F=>(Qcg b (p:=⟨W.heap.size,j,none⟩) (by simp<;>omega) (by simp<;>omega)).trans (ai.o j u F))
   clear k b)
  |(
   refine Qcf underlying22 N.o P.o rfl (.tmp 11) (.tmp 15) rfl W.heap.size (xs:=xs) (news:=E) (n:=t.length) (m:=3) rfl rfl D.o S.o ab.o T.o lZ ?_;intro w2 l q;have Z:=Hi l;have aj:=q.size;have v:=Below.ofGrown s.o q s.o.size (by omega);obtain⟨Q,c1,-⟩:=zc (r.o.below v r.o.lt);have aa:=Hi (x.o.trans (v.mono x.o.size))
   clear l q v)
  )
 all_goals
  go_wp2;go_ret;exact⟨_,by omega,rfl,⟨by simp,by rw[List.flatMap_append,ae.o,show ([⟨d,f⟩,⟨d,f⟩,⟨d,f⟩]:List S2).flatMap S2.cells=E from af.o.symm];exact Qf0 Z.o⟩,aa.o⟩
theorem Qjc:(prog.info? 80).map (fun i=>(i.zero,i.size,i.bytes))=some (some (.agg #[.int .i64 0,.int .i64 0,.string ⟨#[]⟩,.string ⟨#[]⟩,.string ⟨#[]⟩,.string ⟨#[]⟩]),6,80):=by kernel_rfl
theorem Qqb(n:Nat)(f:n<=1048576):∃a:Vw,a.size=(n+3)*6/\∀w,(Instr.makeSlice 23 (.int .i64 0) (.int .i64 (IntKind.i64.wrap ((n:Int)+3)))).run prog w=.ok (.slice (some ⟨w.heap.size,0,none⟩) 0 (n+3)) (w.alloc (.cells a 80)):=by
 obtain⟨i,b,h⟩:=Option.map_eq_some_iff.1 Qjc;simp only[Prod.mk.injEq] at h;obtain⟨c,hs,d⟩:=h;refine⟨madeCells (Value.cells (.agg #[.int .i64 0,.int .i64 0,.string ⟨#[]⟩,.string ⟨#[]⟩,.string ⟨#[]⟩,.string ⟨#[]⟩])) ((n+3)*6),size_madeCells _ _,fun w=>?_⟩;have:=run_make w 23 80 i _ underlying23 b c .i64 .i64 0 ((n:Int)+3) (by omega) (by omega) (by rw[d];omega) (by omega);have e:((n:Int)+3).toNat=n+3:=by omega
 rw[e,hs] at this;rw[show IntKind.i64.wrap ((n:Int)+3)=(n:Int)+3 by rw[IntKind.wrap_i64];omega];exact this
theorem Qqc(a:Vx)(cap:Nat)(z:List B6)(d:Int)(f:Int)(k:Vs)(l:Vs)(q:Vs)(r:Vs)(w:Vz)(hf:ARow B6.cells w a cap z)(hn:z.length<=1048576):
 Calls prog 31 #[.slice a z.length cap,.agg #[.int .i64 d,.int .i64 f,.string k,.string l,.string q,.string r]] w fun e w'=>∃g,w.heap.size<=g/\e=.returned (.slice (some ⟨g,0,none⟩) z.length (z.length+3))/\ARow B6.cells w' (some ⟨g,0,none⟩) (z.length+3) (z++ [⟨d,f,k,l,q,r⟩,⟨d,f,k,l,q,r⟩,⟨d,f,k,l,q,r⟩])/\Bl w w':=by
 have HC:=Hi hf.row;obtain⟨K,R,ao⟩:=Qqb z.length hn;have ah:=Hi R;obtain⟨i,hi,h⟩:=Option.map_eq_some_iff.1 Qjc;simp only[Prod.mk.injEq] at h;obtain⟨hz,hs,hb⟩:=h;obtain⟨S,T,E,F⟩:=Ic hi hs (Qa9 (c:=B6.cells) (sz:=6) (fun _=>rfl) z) (Qfo B6.one z);obtain⟨xs,L⟩:=nm (z.flatMap B6.cells);rw[L] at HC E F;have ai:=Hi L;clear hz hb hi hs R hf L;go_enter func31,ntmps31;go_wp2_with fail;obtain⟨W,hW⟩:=nm (w.alloc (.cells #[.int .i64 d,.int .i64 f,.string k,.string l,.string q,.string r] 80));have B:=Ua hW;have G:SB W w.heap.size 80 #[.int .i64 d,.int .i64 f,.string k,.string l,.string q,.string r]:=by rw[<-hW];exact SB.new w _ _
 rw[hW];have ap:=G.lt;obtain⟨U,c1,c2,c3,c4,c5,-⟩:=zc G;have x:=Hi G;clear G hW;obtain⟨I,C⟩:∃I:Vv,I= [.int .i64 d,.int .i64 f,.string k,.string l,.string q,.string r,.int .i64 d,.int .i64 f,.string k,.string l,.string q,.string r,.int .i64 d,.int .i64 f,.string k,.string l,.string q,.string r]:=⟨_,rfl⟩;have aj:=Hi C
 have M:∀(X:Vz) (j:Nat) (u:Value),I[j]?=some u->(X.alloc (.cells #[.int .i64 d,.int .i64 f,.string k,.string l,.string q,.string r,.int .i64 d,.int .i64 f,.string k,.string l,.string q,.string r,.int .i64 d,.int .i64 f,.string k,.string l,.string q,.string r] 80)).cell? ⟨X.heap.size,j,none⟩=some u:=by
  intro X j u J;rw[(SB.new X 80 #[.int .i64 d,.int .i64 f,.string k,.string l,.string q,.string r,.int .i64 d,.int .i64 f,.string k,.string l,.string q,.string r,.int .i64 d,.int .i64 f,.string k,.string l,.string q,.string r]).cell j];rw[C] at J
  simpa using J
 have V:=Hi M;have Y:O (I.length=3*6):=Hi (by rw[C];rfl);have Z:O (∀u∈ I,u.oneCell'=true):=Hi (by rw[C];simp[Value.oneCell']);have N:=Hi (HC.o.below B.o);have D:∀X:Vz,W.heap.size<=X.heap.size->(X.alloc (.cells K 80)).ownsRow W.heap.size 80 6 (.slice (some ⟨X.heap.size,0,none⟩) 0 (z.length+3)) 0 []:=fun X hX=>World.ownsRow_made X K (z.length+3) hX (by unfold maxLen;omega) ah.o
 have aa:=Hi D;have P:O (Bl W (W.alloc (.cells K 80)).drew):=Hi (bR.alloc lZ _).drew;have ab:O (Bl W ((W.alloc (.cells #[.int .i64 d,.int .i64 f,.string k,.string l,.string q,.string r,.int .i64 d,.int .i64 f,.string k,.string l,.string q,.string r,.int .i64 d,.int .i64 f,.string k,.string l,.string q,.string r] 80)).alloc (.cells K 80)).drew):=Hi (((bR.alloc lZ _).alloc (by simp) _).drew);have ak:O (((W.alloc (.cells #[.int .i64 d,.int .i64 f,.string k,.string l,.string q,.string r,.int .i64 d,.int .i64 f,.string k,.string l,.string q,.string r,.int .i64 d,.int .i64 f,.string k,.string l,.string q,.string r] 80)).alloc (.cells K 80)).drew.ownsRow W.heap.size 80 6 (.slice (some ⟨W.heap.size+1,0,none⟩) 0 (z.length+3)) 0 []):=Hi (by
  have:=D (W.alloc (.cells #[.int .i64 d,.int .i64 f,.string k,.string l,.string q,.string r,.int .i64 d,.int .i64 f,.string k,.string l,.string q,.string r,.int .i64 d,.int .i64 f,.string k,.string l,.string q,.string r] 80)) (by simp);simp only[World.size_alloc] at this
  exact this)
 have al:=Hi (N.o.below ab.o);have am:=Hi (fun j u J=>by
  have h1:=M W j u J;have h2:Below (W.alloc (.cells #[.int .i64 d,.int .i64 f,.string k,.string l,.string q,.string r,.int .i64 d,.int .i64 f,.string k,.string l,.string q,.string r,.int .i64 d,.int .i64 f,.string k,.string l,.string q,.string r] 80)).heap.size _ _:=(Below.refl _ (W.alloc (.cells #[.int .i64 d,.int .i64 f,.string k,.string l,.string q,.string r,.int .i64 d,.int .i64 f,.string k,.string l,.string q,.string r,.int .i64 d,.int .i64 f,.string k,.string l,.string q,.string r] 80))).alloc lZ (.cells K 80)
  exact ce h2.drew (by simp) h1)
 clear C M D;go_region_held3 (fun w'=>w'.cell? ⟨w.heap.size,0,none⟩=some (.int .i64 d)/\w'.cell? ⟨w.heap.size,1,none⟩=some (.int .i64 f)/\w'.cell? ⟨w.heap.size,2,none⟩=some (.string k)/\w'.cell? ⟨w.heap.size,3,none⟩=some (.string l)/\w'.cell? ⟨w.heap.size,4,none⟩=some (.string q)/\w'.cell? ⟨w.heap.size,5,none⟩=some (.string r)) ((first|(simp [*];done)|go_keep)) (first
  |(
   refine Qba underlying23 S.o T.o (by decide) rfl (.tmp 9) (.tmp 10) rfl W.heap.size (xs:=xs) rfl rfl (aa.o W lZ) (N.o.below P.o) E.o F.o (by omega) ?_;intro Q s b;have H:=Hi s;have ad:W.heap.size<Q.heap.size:=by have:=b.size;simp at this;omega
   have y:=Hi (Below.ofGrown P.o b P.o.size lZ);obtain⟨U,c1,c2,c3,c4,c5,-⟩:=zc (x.o.below y.o x.o.lt)
   clear s b)
  |(
   refine Qcf underlying23 S.o T.o rfl (.tmp 11) (.tmp 15) rfl W.heap.size (xs:=xs) (news:=I) (n:=z.length) (m:=3) rfl rfl (H.o.alloc _) Y.o (V.o Q) Z.o lZ ?_;intro w2 t v;have ae:=Hi t;have an:Q.heap.size<w2.heap.size:=by have:=v.size;simp at this;omega
   have A:=Below.ofGrown (y.o.alloc y.o.size _) v (by have:=y.o.size;simp;omega) lZ;obtain⟨U,c1,c2,c3,c4,c5,-⟩:=zc (x.o.below A x.o.lt);have af:=Hi (B.o.trans (A.mono B.o.size))
   clear t v A)
  |(
   refine Qba underlying23 S.o T.o (by decide) rfl (.tmp 9) (.tmp 10) rfl W.heap.size (xs:=xs) rfl rfl ((aa.o W lZ).alloc (.cells #[.int .i64 d,.int .i64 f,.string k,.string l,.string q,.string r,.int .i64 d,.int .i64 f,.string k,.string l,.string q,.string r,.int .i64 d,.int .i64 f,.string k,.string l,.string q,.string r] 80)) (N.o.below (P.o.alloc P.o.size _)) E.o F.o (by omega) ?_;intro Q s b;have H:=Hi s;have ad:W.heap.size<Q.heap.size:=by have:=b.size;simp at this;omega
   have y:=Hi (Below.ofGrown (P.o.alloc P.o.size _) b (by simp<;>omega) lZ);obtain⟨U,c1,c2,c3,c4,c5,-⟩:=zc (x.o.below y.o x.o.lt);have ag:=Hi (fun j u J=>(Qcg b (p:=⟨W.heap.size+1,j,none⟩) (by simp<;>omega) (by simp<;>omega)).trans (by simpa using V.o (W.alloc (.cells K 80)) j u J))
   clear s b)
  |(
   refine Qba underlying23 S.o T.o (by decide) rfl (.tmp 9) (.tmp 10) rfl W.heap.size (xs:=xs) (g:=W.heap.size+1) rfl rfl (ak.o) (al.o) E.o F.o (by omega) ?_;intro Q s b;have H:=Hi s;have ad:W.heap.size<Q.heap.size:=by have:=b.size;simp at this;omega
   have y:=Hi (Below.ofGrown ab.o b (by simp<;>omega) (by omega));obtain⟨U,c1,c2,c3,c4,c5,-⟩:=zc (x.o.below y.o x.o.lt);have ag:=Hi (fun j u J=>(Qcg b (p:=⟨W.heap.size,j,none⟩) (by simp<;>omega) (by simp<;>omega)).trans (am.o j u J))
   clear s b)
  |(
   refine Qcf underlying23 S.o T.o rfl (.tmp 11) (.tmp 15) rfl W.heap.size (xs:=xs) (news:=I) (n:=z.length) (m:=3) rfl rfl H.o Y.o ag.o Z.o lZ ?_;intro w2 t v;have ae:=Hi t;have an:=v.size;have A:=Below.ofGrown y.o v y.o.size (by omega);obtain⟨U,c1,c2,c3,c4,c5,-⟩:=zc (x.o.below A x.o.lt);have af:=Hi (B.o.trans (A.mono B.o.size))
   clear t v A)
  )
 all_goals
  go_wp2;go_ret;exact⟨_,by omega,rfl,⟨by simp,by rw[List.flatMap_append,ai.o,show ([⟨d,f,k,l,q,r⟩,⟨d,f,k,l,q,r⟩,⟨d,f,k,l,q,r⟩]:List B6).flatMap B6.cells=I from aj.o.symm];exact Qf0 ae.o⟩,af.o⟩
theorem Qjd:(prog.info? 83).map (fun i=>(i.zero,i.size,i.bytes))=some (some (.agg #[.int .i64 0,.int .i64 0,.string ⟨#[]⟩]),3,32):=by kernel_rfl
theorem Qqd(n:Nat)(f:n<=1048576):∃a:Vw,a.size=(n+3)*3/\∀w,(Instr.makeSlice 24 (.int .i64 0) (.int .i64 (IntKind.i64.wrap ((n:Int)+3)))).run prog w=.ok (.slice (some ⟨w.heap.size,0,none⟩) 0 (n+3)) (w.alloc (.cells a 83)):=by
 obtain⟨i,b,h⟩:=Option.map_eq_some_iff.1 Qjd;simp only[Prod.mk.injEq] at h;obtain⟨c,hs,d⟩:=h;refine⟨madeCells (Value.cells (.agg #[.int .i64 0,.int .i64 0,.string ⟨#[]⟩])) ((n+3)*3),size_madeCells _ _,fun w=>?_⟩;have:=run_make w 24 83 i _ underlying24 b c .i64 .i64 0 ((n:Int)+3) (by omega) (by omega) (by rw[d];omega) (by omega);have e:((n:Int)+3).toNat=n+3:=by omega
 rw[e,hs] at this;rw[show IntKind.i64.wrap ((n:Int)+3)=(n:Int)+3 by rw[IntKind.wrap_i64];omega];exact this
theorem Qqe(a:Vx)(cap:Nat)(v:List H3)(d:Int)(f:Int)(k:Vs)(w:Vz)(hf:ARow H3.cells w a cap v)(hn:v.length<=1048576):
 Calls prog 32 #[.slice a v.length cap,.agg #[.int .i64 d,.int .i64 f,.string k]] w fun e w'=>∃g,w.heap.size<=g/\e=.returned (.slice (some ⟨g,0,none⟩) v.length (v.length+3))/\ARow H3.cells w' (some ⟨g,0,none⟩) (v.length+3) (v++ [⟨d,f,k⟩,⟨d,f,k⟩,⟨d,f,k⟩])/\Bl w w':=by
 have HC:=Hi hf.row;obtain⟨H,N,al⟩:=Qqd v.length hn;have ae:=Hi N;obtain⟨i,hi,h⟩:=Option.map_eq_some_iff.1 Qjd;simp only[Prod.mk.injEq] at h;obtain⟨hz,hs,hb⟩:=h;obtain⟨P,Q,B,C⟩:=Ic hi hs (Qa9 (c:=H3.cells) (sz:=3) (fun _=>rfl) v) (Qfo H3.one v);obtain⟨xs,I⟩:=nm (v.flatMap H3.cells);rw[I] at HC B C;have af:=Hi I;clear hz hb hi hs N hf I;go_enter func32,ntmps32;go_wp2_with fail;obtain⟨W,hW⟩:=nm (w.alloc (.cells #[.int .i64 d,.int .i64 f,.string k] 83));have y:=Ua hW;have D:SB W w.heap.size 83 #[.int .i64 d,.int .i64 f,.string k]:=by rw[<-hW];exact SB.new w _ _
 rw[hW];have am:=D.lt;obtain⟨R,c1,c2,-⟩:=zc D;have s:=Hi D;clear D hW;obtain⟨F,z⟩:∃F:Vv,F= [.int .i64 d,.int .i64 f,.string k,.int .i64 d,.int .i64 f,.string k,.int .i64 d,.int .i64 f,.string k]:=⟨_,rfl⟩;have ag:=Hi z;have J:∀(X:Vz) (j:Nat) (u:Value),F[j]?=some u->(X.alloc (.cells #[.int .i64 d,.int .i64 f,.string k,.int .i64 d,.int .i64 f,.string k,.int .i64 d,.int .i64 f,.string k] 83)).cell? ⟨X.heap.size,j,none⟩=some u:=by
  intro X j u G;rw[(SB.new X 83 #[.int .i64 d,.int .i64 f,.string k,.int .i64 d,.int .i64 f,.string k,.int .i64 d,.int .i64 f,.string k]).cell j];rw[z] at G
  simpa using G
 have S:=Hi J;have T:O (F.length=3*3):=Hi (by rw[z];rfl);have U:O (∀u∈ F,u.oneCell'=true):=Hi (by rw[z];simp[Value.oneCell']);have K:=Hi (HC.o.below y.o);have A:∀X:Vz,W.heap.size<=X.heap.size->(X.alloc (.cells H 83)).ownsRow W.heap.size 83 3 (.slice (some ⟨X.heap.size,0,none⟩) 0 (v.length+3)) 0 []:=fun X hX=>World.ownsRow_made X H (v.length+3) hX (by unfold maxLen;omega) ae.o
 have V:=Hi A;have L:O (Bl W (W.alloc (.cells H 83)).drew):=Hi (bR.alloc lZ _).drew;have Y:O (Bl W ((W.alloc (.cells #[.int .i64 d,.int .i64 f,.string k,.int .i64 d,.int .i64 f,.string k,.int .i64 d,.int .i64 f,.string k] 83)).alloc (.cells H 83)).drew):=Hi (((bR.alloc lZ _).alloc (by simp) _).drew);have ah:O (((W.alloc (.cells #[.int .i64 d,.int .i64 f,.string k,.int .i64 d,.int .i64 f,.string k,.int .i64 d,.int .i64 f,.string k] 83)).alloc (.cells H 83)).drew.ownsRow W.heap.size 83 3 (.slice (some ⟨W.heap.size+1,0,none⟩) 0 (v.length+3)) 0 []):=Hi (by
  have:=A (W.alloc (.cells #[.int .i64 d,.int .i64 f,.string k,.int .i64 d,.int .i64 f,.string k,.int .i64 d,.int .i64 f,.string k] 83)) (by simp);simp only[World.size_alloc] at this
  exact this)
 have ai:=Hi (K.o.below Y.o);have aj:=Hi (fun j u G=>by
  have h1:=J W j u G;have h2:Below (W.alloc (.cells #[.int .i64 d,.int .i64 f,.string k,.int .i64 d,.int .i64 f,.string k,.int .i64 d,.int .i64 f,.string k] 83)).heap.size _ _:=(Below.refl _ (W.alloc (.cells #[.int .i64 d,.int .i64 f,.string k,.int .i64 d,.int .i64 f,.string k,.int .i64 d,.int .i64 f,.string k] 83))).alloc lZ (.cells H 83)
  exact ce h2.drew (by simp) h1)
 clear z J A;go_region_held3 (fun w'=>w'.cell? ⟨w.heap.size,0,none⟩=some (.int .i64 d)/\w'.cell? ⟨w.heap.size,1,none⟩=some (.int .i64 f)/\w'.cell? ⟨w.heap.size,2,none⟩=some (.string k)) ((first|(simp [*];done)|go_keep)) (first
  |(
   refine Qba underlying24 P.o Q.o (by decide) rfl (.tmp 9) (.tmp 10) rfl W.heap.size (xs:=xs) rfl rfl (V.o W lZ) (K.o.below L.o) B.o C.o (by omega) ?_;intro M l b;have E:=Hi l;have Z:W.heap.size<M.heap.size:=by have:=b.size;simp at this;omega
   have t:=Hi (Below.ofGrown L.o b L.o.size lZ);obtain⟨R,c1,c2,-⟩:=zc (s.o.below t.o s.o.lt)
   clear l b)
  |(
   refine Qcf underlying24 P.o Q.o rfl (.tmp 11) (.tmp 15) rfl W.heap.size (xs:=xs) (news:=F) (n:=v.length) (m:=3) rfl rfl (E.o.alloc _) T.o (S.o M) U.o lZ ?_;intro w2 q r;have aa:=Hi q;have ak:M.heap.size<w2.heap.size:=by have:=r.size;simp at this;omega
   have x:=Below.ofGrown (t.o.alloc t.o.size _) r (by have:=t.o.size;simp;omega) lZ;obtain⟨R,c1,c2,-⟩:=zc (s.o.below x s.o.lt);have ab:=Hi (y.o.trans (x.mono y.o.size))
   clear q r x)
  |(
   refine Qba underlying24 P.o Q.o (by decide) rfl (.tmp 9) (.tmp 10) rfl W.heap.size (xs:=xs) rfl rfl ((V.o W lZ).alloc (.cells #[.int .i64 d,.int .i64 f,.string k,.int .i64 d,.int .i64 f,.string k,.int .i64 d,.int .i64 f,.string k] 83)) (K.o.below (L.o.alloc L.o.size _)) B.o C.o (by omega) ?_;intro M l b;have E:=Hi l;have Z:W.heap.size<M.heap.size:=by have:=b.size;simp at this;omega
   have t:=Hi (Below.ofGrown (L.o.alloc L.o.size _) b (by simp<;>omega) lZ);obtain⟨R,c1,c2,-⟩:=zc (s.o.below t.o s.o.lt);have ad:=Hi (fun j u G=>(Qcg b (p:=⟨W.heap.size+1,j,none⟩) (by simp<;>omega) (by simp<;>omega)).trans (by simpa using S.o (W.alloc (.cells H 83)) j u G))
   clear l b)
  |(
   refine Qba underlying24 P.o Q.o (by decide) rfl (.tmp 9) (.tmp 10) rfl W.heap.size (xs:=xs) (g:=W.heap.size+1) rfl rfl (ah.o) (ai.o) B.o C.o (by omega) ?_;intro M l b;have E:=Hi l;have Z:W.heap.size<M.heap.size:=by have:=b.size;simp at this;omega
   have t:=Hi (Below.ofGrown Y.o b (by simp<;>omega) (by omega));obtain⟨R,c1,c2,-⟩:=zc (s.o.below t.o s.o.lt);have ad:=Hi (fun j u G=>(Qcg b (p:=⟨W.heap.size,j,none⟩) (by simp<;>omega) (by simp<;>omega)).trans (aj.o j u G))
   clear l b)
  |(
   refine Qcf underlying24 P.o Q.o rfl (.tmp 11) (.tmp 15) rfl W.heap.size (xs:=xs) (news:=F) (n:=v.length) (m:=3) rfl rfl E.o T.o ad.o U.o lZ ?_;intro w2 q r;have aa:=Hi q;have ak:=r.size;have x:=Below.ofGrown t.o r t.o.size (by omega);obtain⟨R,c1,c2,-⟩:=zc (s.o.below x s.o.lt);have ab:=Hi (y.o.trans (x.mono y.o.size))
   clear q r x)
  )
 all_goals
  go_wp2;go_ret;exact⟨_,by omega,rfl,⟨by simp,by rw[List.flatMap_append,af.o,show ([⟨d,f,k⟩,⟨d,f,k⟩,⟨d,f,k⟩]:List H3).flatMap H3.cells=F from ag.o.symm];exact Qf0 aa.o⟩,ab.o⟩
end Go.Proofs.YtppkmifkpjkgpaaGreatDoor
