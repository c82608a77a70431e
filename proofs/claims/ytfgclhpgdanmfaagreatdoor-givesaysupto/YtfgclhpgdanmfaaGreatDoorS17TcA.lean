import Derived.Test.YtfgclhpgdanmfaaGreatDoorS16RegI
import Derived.Test.YtfgclhpgdanmfaaGreatDoorS15FVal
import Derived.Deep.Slices
import Derived.KernelRfl
import Derived.Test.YtfgclhpgdanmfaaGreatDoorRows
import Derived.ProofKit
import Derived.OpenShut
import Derived.Carry
import Derived.Lib.LaidTab
import Derived.Shelf.LaysM
import Derived.Deep.RegionLaw
import Derived.Deep.Upon
import Derived.Laws.OwnMore
namespace Go.Proofs.YtfgclhpgdanmfaaGreatDoor
set_option linter.defProp false
open Go.RowKit
open Go.Proofs.Tryz
set_option linter.unusedSimpArgs false
set_option linter.unusedVariables false
set_option maxHeartbeats 8000000
set_option maxRecDepth 1000000
variable{w w':Vz}{a:Vx}{xs:Vv}{b cap g i:Nat}{t:Vr}{x1 x2:Ac}
section
open Go Go.RowKit
section
variable {P:Au} {ops:Af} {Q:Ab}
def oL(ops:Af)(i:Nat):Bool:=(List.range i).all fun j=>(List.range (i+1)).any fun k=>(jY ops k).contains j
def oL.down{L:Vy}{i:Nat}(b:oL ops i=true){n:Nat}(F:jK ops n)(e:∀j∈ jY ops i,j∈ L)(f:∀k∈ L,∀j∈ jY ops k,j∈ L):∀j,j<i->j∈ L:=by
 have c:∀k j,k+j+1=i->j∈ L:=by
  intro k
  induction k using Nat.strongRecOn with
  |_ k ih=>
   intro j g;unfold oL at b;simp only[ij,Bn,dL,qf,nk]at b;obtain⟨m,l,a⟩:=b j oO;have h:=F.low m j a;by_cases d:m=i
   . subst d;exact e j a
   . exact f m (ih (i - m - 1) oO m oO) j a
 intro j g;exact c (i - j - 1) j oO
end
end
section
open Go
section
variable {P:Au} {ops:Af} {Q:Ab} {md:Region.Mode} {S:AB} {k:Nat}
def dK(P:Au)(md:Region.Mode)(ops:Af)(Q:Ab)(S:AB)(k:Nat):Nat->Array Bool->Act->World->Prop
 |0,listed,a,w=>Region.ready md ops listed= []/\Q .normal a w
 |fuel+1,listed,a,w=>(Region.ready md ops listed= []->Q .normal a w)/\∀i∈ Region.ready md ops listed,wpOp P ops Q i (fun a' w'=>(i≠k->S w')/\dK P md ops Q S k fuel (listed.setIfInBounds i true) a' w') a w
theorem dK.any:∀(b:Nat)(c:Ao)(a:Act) (w:Vz),dK P md ops Q S k b c a w->wpAny P md ops Q b c a w
 |0,_,_,_,h=>h
 |b+1,_,_,_,h=>⟨h.1,fun i d=>rJ (fun e w' f=>dK.any b _ e w' f.2) (h.2 i d)⟩
def waits(md:Region.Mode)(ops:Af)(k i:Nat):Bool:=match ops[k]? with
 |some o=>o.after.any (fun e=>Region.binds md e && (e.on == i))
 |none=>false
def G8{i:Nat}(h:waits md ops k i=true){o:Oper}(b:ops[k]?=some o):¬∀e∈ o.after,Region.binds md e=true->e.on≠i:=by unfold waits at h;rw[b]at h;simp only[Array.any_eq_true]at h;obtain⟨j,c,a⟩:=h;simp only[mr,mK]at a;intro d;exact d _ (Array.getElem_mem c) a.1 a.2
def dK.first{i:Nat}{t:Oper}{v:Ac}(J:ops[i]?=some t)(q:∀(j:Nat)(o:Oper) z b,ops[j]?=some o->o.op≠.select z b)(T:∀c a w,Q (.panic c) (a.put t.dst v) w->Q (.panic c) a w)(hk:waits md ops k i=true):
 ∀(f:Nat)(d:Ao)(a:Act) (w:Vz),
  (∀j u,ops[j]?=some u->j≠i->d.getD j true=false->(∀e∈ u.after,Region.binds md e=true->e.on≠i)->t.apart ops u=true)->
  i∈ Region.ready md ops d->YieldsIf P ops S t v a->S w->
  dK P md ops Q S k f (d.setIfInBounds i true) (a.put t.dst v) w->dK P md ops Q S k (f+1) d a w:=by
 intro f
 induction f with
 |zero=>
  intro d a w _ x F A H;refine⟨fun h=>(by rw[h]at x;cases x),fun j G=>?_⟩;by_cases g:j=i
  . subst g;exact F.wpOp J A ⟨fun _=>A,H⟩
  . have:=jM G g;rw[H.1]at this;cases this
 |succ f U=>
  intro d a w l x F A H;refine⟨fun h=>(by rw[h]at x;cases x),fun j G=>?_⟩;by_cases g:j=i
  . subst g;exact F.wpOp J A ⟨fun _=>A,H⟩
  .
   have y:=H.2 j (jM G g);obtain⟨r,u,n,B⟩:=mC.1 G;have s:∀e∈ u.after,Region.binds md e=true->e.on≠i:=fun e V hb K=>by
    have y:=B e V hb;have R:=(mC.1 x).1;rw[K]at y;rcases bB i d.size with L|L
    . simp[L]at R y;rw[R]at y;cases y
    . simp[dX L]at y
   have M:j≠k:=fun e=>G8 hk (by rw[<-e];exact n) s
   have W:=wpOp_putIf n (l j u n g r s) (fun z b=>q i t z b J) (fun z b=>q j u z b n) T F y;have p:∀m C,ops[m]?=some C->m≠i->(d.setIfInBounds j true).getD m true=false->
    (∀e∈ C.after,Region.binds md e=true->e.on≠i)->t.apart ops C=true:=fun m C X N D O=>by
    refine l m C X N ?_ O;by_cases E:j=m
    . subst E;exact r
    . rw[_root_.Go.getD_set_ne true E]at D;exact D
   refine rJ (fun Y w' I=>⟨I.2.1,U (d.setIfInBounds j true) Y w' p (jM x (gH g)) I.1 (I.2.1 M) ?_⟩) W;rw[lP _ _ g];exact I.2.2
def dK.take{i:Nat}{e:Oper}{v:Ac}{d:Nat}{b:Ao}{a:Act}{w:Vz}(f:ops[i]?=some e)(g:Region.noSelect ops=true)(j:Region.free md ops b i=true)(l:(Region.ready md ops b).contains i=true)(hk:waits md ops k i=true)(m:∀c a w,Q (.panic c) (a.put e.dst v) w->Q (.panic c) a w)(n:YieldsIf P ops S e v a)(o:S w)(h:dK P md ops Q S k d (b.setIfInBounds i true) (a.put e.dst v) w):dK P md ops Q S k (d+1) b a w:=
 dK.first f (l8 g) m hk d b a w (qp f j) (sU l) n o h
def DN:=@dK.take
def dK.one{i:Nat}{o:Oper}{c:Nat}{b:Ao}{a:Act}{w:Vz}(d:Region.ready md ops b= [i])(g:ops[i]?=some o)(h:∀K':Ar,Shut (∀a w,(i≠k->S w)->dK P md ops Q S k c (b.setIfInBounds i true) a w->K' a w)->if Region.wanted o (yielded ops a.tmps)=true then Oper.wp P o a w K' Q else K' (a.put o.dst undef) w):dK P md ops Q S k (c+1) b a w:=by refine⟨(fun e=>by rw[d]at e;cases e),fun j f=>?_⟩;rw[d]at f;obtain rfl:=bE.1 f;exact De g (fun K' l=>h K' (fun a w m hW=>l a w ⟨m,hW⟩))
def rh:=@dK.one
def dK.done{b:Ao}{a:Act}{w:Vz}(d:Region.ready md ops b= [])(h:Q .normal a w):∀c,dK P md ops Q S k c b a w
 |0=>⟨d,h⟩
 |_+1=>⟨fun _=>h,by rw[d];simp⟩
def vD:=@dK.done
def dK.begin{id:Nat}{a:Act}{w:Vz}(b:P.follows .mixedOrders=true)(h:dK P .any ops Q S k ops.size (Array.replicate ops.size false) a w.drew):(Code.region id ops true).wp P Q a w:=
 yH b (dK.any _ _ _ _ h)
end
end
def Gz(s t:Vs)(w:Vz):Calls prog 26 #[.string s,.string t] w fun e w'=>e=.returned (.agg #[.string s,.string t])/\Below w.heap.size w w':=by have a:=Hi ((ac w.heap.size w).alloc lZ (.cells #[.string s,.string t] 34));go_enter func26,ntmps26;go_wp2;refine bK (bG rfl _ _ w.heap.size 34 #[.string s,.string t] (0,0) _ rfl (cK w _ _) underlying34 rfl Tryz.AY) rfl ?_;exact⟨rfl,a.o⟩
section
open Go
def UA(a:Vy)(h:Small 10 a):dE (a.reverse.map (fun d=>UInt8.ofNat (48+d)))=val 10 a:=by
 induction a with
 |nil=>rfl
 |cons d l b=>
  have i:=h d (dT ..);have c:=b fun e f=>h e (bU _ f)
  have g:(UInt8.ofNat (48+d)).toNat=48+d:=by rw[xm];omega
  rw[yK,dH,dY,yL,IK,c,g,DE];omega
def pY.dig{l:Vu}{n:Nat}(h:pY l n):nO l/\dE l=n:=by
 rcases h with ⟨rfl,rfl⟩|⟨f,e,a,rfl⟩
 . exact⟨⟨dD,fun c b=>by simp at b;subst b;decide⟩,dD⟩
 .
  refine⟨⟨?_,?_⟩,by rw[UA e a.small];exact a.eq⟩
  . intro g;have:e= []:=sU g;subst this;exact f (by rw[<-a.eq];rfl)
  . intro c b;obtain⟨d,i,rfl⟩:=bZ.1 b;have j:=a.small d (sU i);rw[xm];omega
def Uz{l:Vu}(h:fF l):Lib.index l [47]= -1:=by
 induction l with
 |nil=>rfl
 |cons c l a=>
  have b:=h c (dT ..);have e:=a fun d f=>h d (bU _ f)
  have g:((47:AP) == c)=false:=by rw[aJ];rintro rfl;exact absurd b.1 dD
  unfold Lib.index;rw[e];simp[List.isPrefixOf,g]
def Uy{l:Vu}(d:Vu)(h:fF l):Lib.index (l++47 :: d) [47]=l.length:=by
 induction l with
 |nil=>simp[Lib.index,List.isPrefixOf]
 |cons c l a=>
  have b:=h c (dT ..);have e:=a fun d f=>h d (bU _ f)
  have g:((47:AP) == c)=false:=by rw[aJ];rintro rfl;exact absurd b.1 dD
  have i:((l.length:Int) == -1)=false:=by rw[aJ];omega
  rw[bO];unfold Lib.index;rw[e];simp[List.isPrefixOf,g,i]
def Kt{l:Vu}(h:fF l):Lib.cut l [47]=(l,[],false):=by unfold Lib.cut;rw[Uz h];rfl
def Ks{l:Vu}(d:Vu)(h:fF l):Lib.cut (l++47 :: d) [47]=(l,d,true):=by unfold Lib.cut;rw[Uy d h,aN oO];simp
def Nu{l:Vu}(t:Vu)(h:nO l):Lib.hasPrefix (l++t) [45]=false:=by
 obtain⟨a,h⟩:=h;cases l with
 |nil=>exact absurd rfl a
 |cons c l=>
  have b:=h c (dT ..);have d:((45:AP) == c)=false:=by rw[aJ];rintro rfl;exact absurd b.1 dD
  simp[Lib.hasPrefix,List.isPrefixOf,d]
def Ux{l:Vu}(t:Vu)(h:nO l):Lib.trimPrefix (l++t) [45]=l++t:=by unfold Lib.trimPrefix;rw[Nu t h];rfl
def Nt(t:Vu):Lib.hasPrefix (45 :: t) [45]=true:=by simp[Lib.hasPrefix,List.isPrefixOf]
def Uw(t:Vu):Lib.trimPrefix (45 :: t) [45]=t:=by unfold Lib.trimPrefix;rw[Nt t];rfl
def Ns(X:Int):kJ (decide (X<0)) X.natAbs=X:=by
 unfold kJ;by_cases h:X<0
 . simp[h];omega
 . simp[h];omega
def iK.uV{l:Vu}{q:Rat}(h:iK l q):il l q:=by
 obtain⟨m,⟨k,hk,rfl⟩,h⟩:=h;obtain⟨a,g⟩:=hk.dig;have i:∀t,Lib.hasPrefix ((if q.num<0 then 45 :: k else k)++t) [45]=decide (q.num<0):=by
  intro t;by_cases b:q.num<0
  . simp only[b,tN,decide_true,bO];exact Nt _
  . simp only[b,EB,decide_false];exact Nu t a
 have j:∀t,Lib.trimPrefix ((if q.num<0 then 45 :: k else k)++t) [45]=k++t:=by
  intro t;by_cases b:q.num<0
  . simp only[b,tN,bO];exact Uw _
  . simp only[b,EB];exact Ux t a
 rcases h with ⟨n,rfl⟩|⟨n,d,c,rfl⟩
 . have o:=i [];have e:=j [];rw[mU]at o e;rw[mU]at e;have:=Il (c1:=k) (c2:=[]) (bar:=false) e o (by rw[Kt a.2]) (by rw[Kt a.2]) (by rw[Kt a.2]) a (fun h=>by cases h);rw[g,Ns]at this;have f:mkRat q.num (if false=true then dE [] else 1)=q:=by have:=iO q;rw[n]at this;exact this
   rw[f]at this;exact this
 . obtain⟨p,r⟩:=c.dig;have:=Il (c1:=k) (c2:=d) (bar:=true) (j (47 :: d)) (i (47 :: d)) (by rw[Ks d a.2]) (by rw[Ks d a.2]) (by rw[Ks d a.2]) a (fun _=>p);rw[g,Ns,r]at this;have f:mkRat q.num (if true=true then q.den else 1)=q:=iO q;rw[f]at this;exact this
end
def CN:prog.cellsOf 32=1:=kK
def GZ:prog.cellsOf 34=2:=kK
section
variable {H:Type} {enc:TypeId × Value->H} {P:Au} {w:Vz} {base:Nat} {spare:AH} {held:Bool} {fuel:Nat} {cs:Vv} {x:DataW H × List MemPlace} {tF tS tQ:Vr} {f0 f1 g0 g1:Field}
theorem Lg(g:P.underlying tS=some (.struct #[f0,f1]))(e:P.underlying tQ=some .string)(i:P.cellsOf tS=2)(f:P.cellsOf tQ=1)(t0:f0.type=tQ)(t1:f1.type=tQ)(j:f0.offset=0)(k:f1.offset=1)(h:DataW.trod enc P w base spare held fuel tS cs=some x):
 ∃s t:Vs,cs= [.string s,.string t]/\x.1=.agg [.lit (.string s.data.toList),.lit (.string t.data.toList)]/\x.2= []:=by
 obtain⟨xs,n,rfl,rfl,hl,a,b⟩:=pI g h;rw[i]at hl;clear h;have c:=b 0 f0 rfl;have d:=b 1 f1 rfl;rw[t0,j,f]at c;rw[t1,k,f]at d;clear b
 match cs,hl,xs,a with
 | [v0,v1],_,[y0,y1],_=> simp only[iP,nW,nU,rn,aI,aM]at c d;obtain⟨s,l,rfl,_⟩:=j6 e c;obtain⟨t,m,rfl,_⟩:=j6 e d;obtain rfl:v0=_:=sU l;obtain rfl:v1=_:=sU m;exact⟨s,t,rfl,rfl,rfl⟩
end
section
open Go.ChangeShapes Go.WideShapes Go.ChangeAt Go.RowKit
def own:ownKnob prog.godebug=none:=kK
def J1:laidOutB prog=true:=kK
def J0{H:Type}{d:DataW H}{l:List (DataW H)}(h:d∈ l):Rows.uptoBulk d<=Rows.uptoBulkAll l:=by
 induction l with
 |nil=>cases h
 |cons x r a=>
  simp only[Rows.uptoBulkAll];rcases aY.1 h with rfl|h
  . omega
  . have:=a h;omega
def SH{H:Type}(l r:List (DataW H)):Rows.uptoBulkAll l<=Rows.uptoBulk (.slice l r):=by simp only[Rows.uptoBulk];omega
def wW{P:Au}{W:Vz}{x:String × DataW Unit}{l:AD}(h:laidMet P (x :: l) W):laidMet P l W:=by obtain⟨i,⟨g,t,j,c,p,q,_,_,_,_,hl,rfl⟩,d,e⟩:=h;exact⟨q,hl,(List.nodup_append.1 d).2.1,fun b a f=>e b a (bD.2 (.inr f))⟩
def JL:prog.globalNamed "internal/strconv.uint64pow10" =some 9:=kK
def SF:(prog.globals[9]?).map (·.type)=some 276:=kK
def SE:prog.cellsOf 276=20:=kK
def SD:prog.cellsOf 172=1:=kK
def SA:(Rows.laid_internal_strconv_uint64pow10:DataW Unit)=Lib.tabData .u64 Lib.pow10Tab:=kK
def Sz{W:Vz}{rest:AD}(h:laidMet prog (("internal/strconv.uint64pow10",Rows.laid_internal_strconv_uint64pow10) :: rest) W):wU W:=by rw[SA]at h;exact Lib.tabIs_of_head JL SF underlying276 underlying172 SD SE h
def Sy{W:Vz}(h:W.ShapedOpen prog):∃m,W.cell? ⟨4,0,none⟩=some (.int .i64 m):=
 cell_of_shapedOpen_int (zero:=#[.int .i64 0]) (t:=3) h (lz kK) kK rfl kK kK underlying3
def Bw:DataW Unit->List Value
 | .lit (.int k z)=>[.int k z]
 | .lit (.string bs)=>[.string ⟨bs.toArray⟩]
 |_=>[]
def Gx:DataW Unit->List Value
 | .agg ps=>ps.flatMap Bw
 |d=>Bw d
def Gw:DataW Unit->List Value
 | .agg ps=>ps.flatMap Gx
 |d=>Bw d
def put(g:Nat)(d:DataW Unit)(w:Vz):World:={ w with heap:=w.heap.modify g fun
 | .cells _ t frozen=>.cells (Gw d).toArray t frozen
 |o=>o }
end
structure mA (w:Vz) (a:Vx) (xs:Vv):Prop where
 cell:∀j u,xs[j]?=some u->∃b off,a=some ⟨b,off,none⟩/\b<w.heap.size/\w.cell? ⟨b,off+j,none⟩=some u
def mA.below(h:mA w a xs)(hb:Bl w w'):mA w' a xs:=by refine⟨fun j u d=>?_⟩;obtain⟨b,c,f,g,k⟩:=h.cell j u d;exact⟨b,c,f,by have:=hb.size;omega,ce hb g k⟩
section
variable {P:Au} {t e:Vr} {i:AT} {size:Nat}
def LO(b a j:Nat):Addr.add ⟨b,a,none⟩ j=⟨b,a+j,none⟩:=by unfold Addr.add;by_cases c:j=0<;>simp[c]
def Of(o:P.underlying t=some (.slice e))(r:P.info? e=some i)(f:i.size=size)(v:0<size){w:Vz}{g c base n cap:Nat}{a:Vx}{xs:Vv}(d:w.ownsRow base e size (.slice (some ⟨g,0,none⟩) 0 c) 0 [])(s:mA w a xs)(hl:xs.length=n*size)(x:∀u∈ xs,u.oneCell'=true)(p:n<=c)(ty:Vr):
 ∃w',(Builtin.append_ #[t,t] ty #[.slice (some ⟨g,0,none⟩) 0 c,.slice a n cap]).run P w=.ok (.slice (some ⟨g,0,none⟩) n c) w'/\w'.ownsRow base e size (.slice (some ⟨g,0,none⟩) n c) n xs/\w.grownBy w' (some g):=by
 cases a with
 |none=>
  have m:xs= []:=by
   cases xs with
   |nil=>rfl
   |cons u l=> obtain⟨b,q,h,_⟩:=s.cell 0 u rfl;cases h
  subst m;have y:n=0:=by
   rcases eE n with h|h
   . exact h
   . have:=gL h v;simp at hl;omega
  subst y;have z:Src P i.size t (.slice none 0 cap) 0 [] w:=Src.ofNil w o cap;exact⟨w,run_append_nothing w t t ty e i o r _ 0 c (cJ _) _ z,d,⟨rfl,rfl,rfl,aV _,fun _ _ _=>rfl⟩⟩
 |some ad=>
  have k:∀j u,xs[j]?=some u->w.cell? (ad.add j)=some u:=by intro j u A;obtain⟨b,q,h,_,B⟩:=s.cell j u A;cases h;rw[LO];exact B
  have:=Fj w base t ty e i size o r f g 0 c [] d ad n cap xs hl k x oO
  simpa using this
def BI{ops:Af}{o:Oper}{a:Act}{w:Vz}{K:Ar}{Q:Ab}{E:Prop}(d:o.guard=none)(s x:AV)(c:o.op=Op.call { callee:=Callee.builtin Builtin.append,args:=#[s,x],argTypes:=#[t,t] }){vs vx v:Ac}{w':Vz}(f:a.eval s=vs)(g:a.eval x=vx)(b:(Builtin.append_ #[t,t] o.type #[vs,vx]).run P w=.ok v w')(h:K (a.put o.dst v) w'):
 if Region.wanted o (yielded ops a.tmps)=true then Oper.wp P o a w K Q else E:=by
 have j:Region.wanted o (yielded ops a.tmps)=true:=by simp[Region.wanted,d]
 rw[aN j];unfold Oper.wp;simp[execOp,c,resolve,invoke,builtin,f,g,b,Result.andThen];exact h
def VG(l:P.underlying t=some (.slice e))(m:P.info? e=some i)(b:i.size=size)(p:0<size){ops:Af}{o:Oper}{a:Act}{w:Vz}{K:Ar}{Q:Ab}{E:Prop}(q:o.guard=none)(s x:AV)(j:o.op=Op.call { callee:=Callee.builtin Builtin.append,args:=#[s,x],argTypes:=#[t,t] }){g c n cap:Nat}(base:Nat){k:Vx}{xs:Vv}(r:a.eval s=.slice (some ⟨g,0,none⟩) 0 c)(v:a.eval x=.slice k n cap)(f:w.ownsRow base e size (.slice (some ⟨g,0,none⟩) 0 c) 0 [])(y:mA w k xs)(hl:xs.length=n*size)(z:∀u∈ xs,u.oneCell'=true)(d:n<=c)(A:∀w',w'.ownsRow base e size (.slice (some ⟨g,0,none⟩) n c) n xs->w.grownBy w' (some g)->K (a.put o.dst (.slice (some ⟨g,0,none⟩) n c)) w'):
 if Region.wanted o (yielded ops a.tmps)=true then Oper.wp P o a w K Q else E:=by
 obtain⟨w',h,B,C⟩:=Of l m b p (cap:=cap) f y hl z d o.type;exact BI q s x j r v h (A w' B C)
def VF(q:P.underlying t=some (.slice e))(r:P.info? e=some i)(d:i.size=size){ops:Af}{o:Oper}{a:Act}{w:Vz}{K:Ar}{Q:Ab}{E:Prop}(v:o.guard=none)(s x:AV)(l:o.op=Op.call { callee:=Callee.builtin Builtin.append,args:=#[s,x],argTypes:=#[t,t] }){g c n m cap p:Nat}(base:Nat){xs b:Vv}(y:a.eval s=.slice (some ⟨g,0,none⟩) n c)(z:a.eval x=.slice (some ⟨p,0,none⟩) m cap)(h:w.ownsRow base e size (.slice (some ⟨g,0,none⟩) n c) n xs)(hl:b.length=m*size)(A:∀j u,b[j]?=some u->w.cell? ⟨p,j,none⟩=some u)(B:∀u∈ b,u.oneCell'=true)(f:n+m<=c)(C:∀w',w'.ownsRow base e size (.slice (some ⟨g,0,none⟩) (n+m) c) (n+m) (xs++b)->w.grownBy w' (some g)->K (a.put o.dst (.slice (some ⟨g,0,none⟩) (n+m) c)) w'):
 if Region.wanted o (yielded ops a.tmps)=true then Oper.wp P o a w K Q else E:=by
 obtain⟨w',k,D,F⟩:=Fj w base t o.type e i size q r d g n c xs h ⟨p,0,none⟩ m cap b hl (fun j u G=>by rw[LO];simpa using A j u G) B f;exact BI v s x l y z k (C w' D F)
end
def Below.ti{B:Nat}{a w w':Vz}{g:Nat}(h:Below B a w)(b:w.grownBy w' (some g))(hB:B<=w.heap.size)(c:B<=g):Below B a w':=
 h.grown b hB (fun k hk=>by cases hk;exact c)
def FT:=@Below.ti
def Oe(b:w.grownBy w' (some g)){p:Addr}(c:p.block<w.heap.size)(a:p.block≠g):w'.cell? p=w.cell? p:=
 bJ (b.block p.block c (sU a))
def GL{base e size n c:Nat}(h:w.ownsRow base e size (.slice (some ⟨g,0,none⟩) n c) n xs):mA w (some ⟨g,0,none⟩) xs:=by refine⟨fun j u a=>⟨g,0,rfl,(h.lt g rfl).2,?_⟩⟩;have hl:=h.1;have b:=(gZ a).1;rw[cC,h.cellAt j oO];exact a
def mA.left{c:Vv}(h:mA w a (xs++c)):mA w a xs:=by refine⟨fun j u b=>h.cell j u ?_⟩;rw[aR (gZ b).1];exact b
def sQ(P:Au)(t ty:Vr)(vs vx:Ac)(w:Vz):Result Value:=(Builtin.append_ #[t,t] ty #[vs,vx]).run P w
@[go_sem ↓] theorem Zd(ρ:Operand->Value)(dst:AQ)(x y:AV)(t ty:Vr)(pos:String)(after:Array Go.Edge)(guard:Option (Nat × Bool))(w:Vz):
   (execOp ρ { dst,op:=.call { callee:=.builtin .append,args:=#[x,y],argTypes:=#[t,t] },type:=ty,pos,after,guard }).run prog w=(sQ prog t ty (ρ x) (ρ y) w).andThen (fun v w'=>.ok (.value v) w'):=by
  have e:(#[x,y]:Array Operand).map ρ=#[ρ x,ρ y]:=sS;rw[BigFrame.execOp_builtin,BigFrame.builtin_append,e,BS];unfold sQ;simp only[Sem.run_pure]
def Mr:(prog.info? 32).map (fun i=>(i.zero,i.size,i.bytes))=some (some (.string ⟨#[]⟩),1,16):=kK
def iq(ss:Vt):List Value:=ss.map Value.string
def QJ(n:Nat):madeCells (Value.cells (.string ⟨#[]⟩)) n=(iq (List.replicate n ⟨#[]⟩)).toArray:=by
 have e:Value.cells (.string ⟨#[]⟩)=#[.string ⟨#[]⟩]:=by rfl
 rw[e];apply tT;rw[qI];simp[iq]
def QI(n:Nat)(d:n<=1048576)(w:Vz):(Instr.makeSlice 28 (.int .i64 n) (.int .i64 n)).run prog w=.ok (.slice (some ⟨w.heap.size,0,.none⟩) n n) (w.alloc (.cells (iq (List.replicate n ⟨#[]⟩)).toArray 32)):=by obtain⟨i,a,h⟩:=aZ.1 Mr;simp only[fZ]at h;obtain⟨b,c,hb⟩:=h;have:=qJ w 28 32 i _ underlying28 a b .i64 .i64 n n oO oO (rO hb) oO;rw[fC,c,eP,QJ]at this;exact this
def QH(a:Vt)(k:Nat)(s:Vs):iq (a.set k s)=(iq a).set k (.string s):=by simp[iq]
def xq{a:Ac}(h:SB w b t #[a,x1]):w.cell? ⟨b,0,none⟩=some a/\w.cell? ⟨b,1,none⟩=some x1:=⟨h.cell 0,h.cell 1⟩
def lQ{a:Ac}(h:SB w b t #[a,x1,x2]):w.cell? ⟨b,0,none⟩=some a/\w.cell? ⟨b,1,none⟩=some x1/\w.cell? ⟨b,2,none⟩=some x2:=⟨h.cell 0,h.cell 1,h.cell 2⟩
def BY{a x3 c d:Ac}(h:SB w b t #[a,x1,x2,x3,c,d]):w.cell? ⟨b,0,none⟩=some a/\w.cell? ⟨b,1,none⟩=some x1/\w.cell? ⟨b,2,none⟩=some x2/\w.cell? ⟨b,3,none⟩=some x3/\w.cell? ⟨b,4,none⟩=some c/\w.cell? ⟨b,5,none⟩=some d:=⟨h.cell 0,h.cell 1,h.cell 2,h.cell 3,h.cell 4,h.cell 5⟩
def Dx{W wr:Vz}{a:Vr}{M:Vw}(hb:Bl W wr)(h:SB W b a M)(t:Vr)(C:Vw):∃V c,wr.alloc (.cells C t)=V/\wr.heap.size=c/\SB V c t C/\O (Bl W V)/\SB V b a M:=
 have d:=hb.alloc hb.size (.cells C t)
 ⟨_,_,rfl,rfl,cK wr _ _,Hi d,h.below d h.lt⟩
structure S2 where
 x:ByteArray
 y:ByteArray
abbrev Ad:=List S2
structure B6 where
 a:Int
 b:Int
 c:ByteArray
 e:ByteArray
 l:ByteArray
 m:ByteArray
abbrev Ap:=List B6
structure H3 where
 j:Int
 w:Int
 q:ByteArray
abbrev Ak:=List H3
structure L3 where
 j:Int
 x:ByteArray
 y:ByteArray
abbrev AE:=List L3
def S2.cells(s:S2):List Value:=[.string s.x,.string s.y]
def B6.cells(s:B6):List Value:=[.int .i64 s.a,.int .i64 s.b,.string s.c,.string s.e,.string s.l,.string s.m]
def H3.cells(s:H3):List Value:=[.int .i64 s.j,.int .i64 s.w,.string s.q]
def L3.cells(s:L3):List Value:=[.int .i64 s.j,.string s.x,.string s.y]
def S2.one(s:S2):∀u∈ s.cells,u.oneCell'=true:=by simp[S2.cells,Value.oneCell']
def B6.one(s:B6):∀u∈ s.cells,u.oneCell'=true:=by simp[B6.cells,Value.oneCell']
def H3.one(s:H3):∀u∈ s.cells,u.oneCell'=true:=by simp[H3.cells,Value.oneCell']
def L3.one(s:L3):∀u∈ s.cells,u.oneCell'=true:=by simp[L3.cells,Value.oneCell']
structure eO {α:Type} (c:α->List Value) (w:Vz) (a:Vx) (cap:Nat) (es:List α):Prop where
 fit:es.length<=cap
 row:mA w a (es.flatMap c)
section
variable {α:Type} {c:α->List Value} {sz:Nat}
def eO.below{w w':Vz}{a:Vx}{cap:Nat}{b:List α}(h:eO c w a cap b)(hb:Bl w w'):eO c w' a cap b:=⟨h.fit,h.row.below hb⟩
def eO.left{w:Vz}{a:Vx}{cap:Nat}{b d:List α}(h:eO c w a cap (b++d)):eO c w a cap b:=by
 refine⟨?_,?_⟩
 . have:=h.fit;simp at this;omega
 . have:=h.row;rw[jw]at this;exact this.left
def xz(b:∀e,(c e).length=sz)(a:List α):(a.flatMap c).length=a.length*sz:=by
 induction a with
 |nil=>simp
 |cons e l d=>rw[fJ,aS,d,b,dJ,gV];omega
def IB(a:∀e,∀u∈ c e,u.oneCell'=true)(b:List α):∀u∈ b.flatMap c,u.oneCell'=true:=by intro u d;obtain⟨e,_,h⟩:=mp.1 d;exact a e u h
theorem EO(a:∀e,(c e).length=sz):∀(b:List α)(i:Nat)(e:α) (j:Nat) (u:Ac),b[i]?=some e->(c e)[j]?=some u->(b.flatMap c)[i*sz+j]?=some u
 | [],i,e,j,u,h,_=>by simp at h
 |g :: l,0,e,j,u,h,hj=>by obtain rfl:g=e:=sU h;rw[fJ,qP,cC,aR (gZ hj).1];exact hj
 |g :: l,i+1,e,j,u,h,hj=>by have:=EO a l i e j u (sU h) hj;rw[fJ,aX (by rw[a,gV];omega),a,show (i+1)*sz+j - sz=i*sz+j by rw[gV];omega];exact this
def eO.at(l:∀e,(c e).length=sz)(p:0<sz){w:Vz}{a:Vx}{cap:Nat}{k:List α}(h:eO c w a cap k){i:Nat}{e:α}(m:k[i]?=some e):
 ∃b d,a=some ⟨b,d,none⟩/\b<w.heap.size/\∀j u,(c e)[j]?=some u->w.cell? ⟨b,d+i*sz+j,none⟩=some u:=by
 have q:∃u,(c e)[0]?=some u:=⟨_,gE (by rw[l];exact p)⟩;obtain⟨u,r⟩:=q;obtain⟨b,d,n,hb,_⟩:=h.row.cell _ _ (EO l k i e 0 u m r);refine⟨b,d,n,hb,fun j v s=>?_⟩;obtain⟨t,o,g,_,f⟩:=h.row.cell _ _ (EO l k i e j v m s);rw[n]at g;cases g;rw[gT];exact f
end
def eO.spot{f:List S2}(h:eO S2.cells w a cap f){e:S2}(j:f[i]?=some e):
 ∃b d,a=some ⟨b,d,none⟩/\b<w.heap.size/\w.cell? ⟨b,d+i*2,none⟩=some (.string e.x)/\w.cell? ⟨b,d+i*2+1,none⟩=some (.string e.y):=by
 obtain⟨b,d,k,l,g⟩:=h.at (sz:=2) (fun _=>rfl) dD j;exact⟨b,d,k,l,g 0 _ rfl,g 1 _ rfl⟩
def eO.bar{g:List B6}(h:eO B6.cells w a cap g){e:B6}(j:g[i]?=some e):
 ∃b d,a=some ⟨b,d,none⟩/\b<w.heap.size/\w.cell? ⟨b,d+i*6,none⟩=some (.int .i64 e.a)/\w.cell? ⟨b,d+i*6+1,none⟩=some (.int .i64 e.b)/\w.cell? ⟨b,d+i*6+2,none⟩=some (.string e.c)/\w.cell? ⟨b,d+i*6+3,none⟩=some (.string e.e)/\w.cell? ⟨b,d+i*6+4,none⟩=some (.string e.l)/\w.cell? ⟨b,d+i*6+5,none⟩=some (.string e.m):=by
 obtain⟨b,d,k,n,f⟩:=h.at (sz:=6) (fun _=>rfl) dD j;exact⟨b,d,k,n,f 0 _ rfl,f 1 _ rfl,f 2 _ rfl,f 3 _ rfl,f 4 _ rfl,f 5 _ rfl⟩
def eO.sJ{g:List H3}(h:eO H3.cells w a cap g){e:H3}(k:g[i]?=some e):
 ∃b d,a=some ⟨b,d,none⟩/\b<w.heap.size/\w.cell? ⟨b,d+i*3,none⟩=some (.int .i64 e.j)/\w.cell? ⟨b,d+i*3+1,none⟩=some (.int .i64 e.w)/\w.cell? ⟨b,d+i*3+2,none⟩=some (.string e.q):=by
 obtain⟨b,d,l,m,f⟩:=h.at (sz:=3) (fun _=>rfl) dD k;exact⟨b,d,l,m,f 0 _ rfl,f 1 _ rfl,f 2 _ rfl⟩
def eO.load{g:List L3}(h:eO L3.cells w a cap g){e:L3}(k:g[i]?=some e):
 ∃b d,a=some ⟨b,d,none⟩/\b<w.heap.size/\w.cell? ⟨b,d+i*3,none⟩=some (.int .i64 e.j)/\w.cell? ⟨b,d+i*3+1,none⟩=some (.string e.x)/\w.cell? ⟨b,d+i*3+2,none⟩=some (.string e.y):=by
 obtain⟨b,d,l,m,f⟩:=h.at (sz:=3) (fun _=>rfl) dD k;exact⟨b,d,l,m,f 0 _ rfl,f 1 _ rfl,f 2 _ rfl⟩
def tc(s:Vs):List Value:=[.string s]
def eO.uw{d:Vt}(h:eO tc w a cap d){e:Vs}(f:d[i]?=some e):∃b c,a=some ⟨b,c,none⟩/\b<w.heap.size/\w.cell? ⟨b,c+i,none⟩=some (.string e):=by obtain⟨b,c,g,j,k⟩:=h.at (sz:=1) (fun _=>rfl) dD f;have:=k 0 _ rfl;rw[eP,dV]at this;exact⟨b,c,g,j,this⟩
end Go.Proofs.YtfgclhpgdanmfaaGreatDoor
