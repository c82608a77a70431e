import Derived.Test.YtppkmifkpjkgpaaGreatDoorC27RowsI
namespace Go.Proofs.YtppkmifkpjkgpaaGreatDoor
open Go.RowKit
open Go.Proofs.Tryz
set_option linter.unusedSimpArgs false
set_option linter.unusedVariables false
set_option maxHeartbeats 8000000
set_option maxRecDepth 1000000
theorem Qk6:∀u,u∈ (Value.slice none 0 0).cells.toList->IsSl u:=fun u a=>by
 have e:(Value.slice none 0 0).cells=#[.slice none 0 0]:=by rfl
 rw[e] at a;obtain rfl:u=_:=by simpa using a
 exact⟨_,_,_,rfl⟩
theorem Grow.made(w:Vz)(e:Vr)(sz:Nat)(K:Value->Prop):Grow (w.alloc (.cells #[] e)) w.heap.size e sz K (.slice (some ⟨w.heap.size,0,none⟩) 0 0) 0 []:=
 ⟨World.ownsRow_made w #[] 0 lZ (Nat.zero_le _) (by simp),fun g a=>by
   have e:w.heap.size=g:=by simpa [Value.ownBlock] using a
   subst e
   exact⟨#[],SB.new w _ _,fun u b=>by simp at b⟩⟩
theorem Qup(a:Vx)(cap:Nat)(rs:List MR)(w:Vz)(h:ARow MR.cells w a cap rs)(hl:rs.length<=1000):
 Calls prog 124 #[.slice a rs.length cap] w fun e w'=>(∃v,e=.returned v/\Grow w' w.heap.size 93 1 IsSl v rs.length (rs.map MR.val))/\Below w.heap.size w w':=by
 obtain⟨J,t,f,g,hz2⟩:=info_parts Qdd;have K:∀(w:Vz) (a:Vx) (n c n' x:Nat),(binOp .eql 89 (.slice a n c) (.slice none n' x)).run prog w=.ok (.bool a.isNone) w:=fun w a n c n' x=>Lib.run_eql_slice_nil w _ _ a n c n' x underlying89
 have H:=Hi h;clear h;cases a with
 |none=>
  have y:rs= []:=by
   cases rs with
   |nil=>rfl
   |cons r l=>
    obtain⟨b,z,e,_⟩:=H.o.at (sz:=1) (fun _=>rfl) (by decide) (i:=0) (e:=r) rfl;cases e
  subst y;clear t f g hz2;go_enter func124,ntmps124;go_wp2;go_ret;exact⟨⟨_,rfl,Grow.nil _ _ _ _ _⟩,Below.refl _ _⟩
 |some ad=>
  obtain⟨W,s⟩:=nm (w.alloc (.cells #[] 93));have d:Below w.heap.size w W:=by rw[<-s];exact(Below.refl _ _).alloc lZ _
  have m:Grow W w.heap.size 93 1 IsSl (.slice (some ⟨w.heap.size,0,none⟩) 0 0) 0 []:=by rw[<-s];exact Grow.made w _ _ _
  obtain⟨L,w',A,p,q,B⟩:=m.app (P:=prog) (ty:=89) underlying89 t f g hz2 rfl (by decide) Qk6 ad rs.length cap (rs.map MR.val) (by simp) (fun j u C=>by
   rw[<-Qeq] at C;obtain⟨b,z,e,D,E⟩:=H.o.row.cell j u C;cases e;rw[Qaq]
   exact ce d D E) (Qun rs) (Qum rs) (by omega) (by decide) d.size
  rw[<-s] at A;obtain⟨F,G,I⟩:=Ib A p (d.grown q d.size (fun k hk=>by simp[Value.ownBlock] at hk;omega));clear A p q B m d s t f g hz2;go_enter func124,ntmps124;go_wp2_with (at_builtin;refine Qdg _ rfl _ _ 89 89 rfl (.slice (some ⟨w.heap.size,0,none⟩) 0 0) (.slice (some ad) rs.length cap) _ _ rfl rfl F.o ?_);go_wp2;go_ret;refine⟨⟨_,rfl,?_⟩,I.o⟩;have:=G.o;rw[Nat.zero_add,List.nil_append] at this;exact this
def layCells(C:Vw):Nat->List Value->Array Value
 |_,[]=>C
 |o,v :: r=>layCells (C.setIfInBounds o v) (o+1) r
theorem Qcp:∀(vs:Vv) (o:Nat) (C:Vw),(layCells C o vs).size=C.size
 | [],_,_=>rfl
 |v :: r,o,C=>by rw[layCells,Qcp r];simp
theorem Qgw:∀(vs:Vv) (o:Nat) (C:Vw) (i:Nat),o+vs.length<=C.size->(layCells C o vs)[i]?=if o<=i/\i<o+vs.length then vs[i - o]? else C[i]?
 | [],o,C,i,_=>by rw[if_neg (by simp only[List.length_nil];omega)];rfl
 |v :: r,o,C,i,h=>by
  simp only[List.length_cons] at h;rw[layCells,Qgw r (o+1) _ i (by simp;omega),Array.getElem?_setIfInBounds];by_cases a:i=o
  .
   subst a;rw[if_neg (by omega),if_pos rfl,if_pos (by omega),if_pos (by simp only[List.length_cons];omega)];simp
  .
   by_cases b:o+1<=i/\i<o+1+r.length
   . rw[if_pos b,if_pos (by simp only[List.length_cons];omega),show i - o=(i - (o+1))+1 by omega]
     simp
   . rw[if_neg b,if_neg (Ne.symm a),if_neg (by simp only[List.length_cons];omega)]
theorem SB.cells{t:Vr}{g:Nat}:∀(vs:Vv) (o:Nat) {w:Vz} {C:Vw},SB w g t C->SB (w.setCells g o vs) g t (layCells C o vs)/\Only g w (w.setCells g o vs)
 | [],_,w,_,h=>⟨h,Only.refl _ _⟩
 |v :: r,o,w,C,h=>by
  obtain⟨a,b⟩:=SB.cells r (o+1) (h.set o v);exact⟨a,((Only.refl g w).setCell o v).trans b⟩
theorem Quq:∀w,(zeroValue 93).run prog w=.ok (.slice none 0 0) w:=by
 intro w;obtain⟨i,a,h⟩:=Option.map_eq_some_iff.1 Qdd;simp only[Prod.mk.injEq] at h;simp[zeroValue,typeInfo,a,h.1]
theorem Qur(g a cap i j n:Nat)(C:Vw)(w:Vz)(z:SB w g 93 C)(m:a=0)(v:∀u,u∈ C.toList->IsSl u)(T:n<=cap)(B:C.size=cap)(x:cap<=maxLen)(J:i<j)(U:j<=n):
 Calls prog 126 #[.slice (some ⟨g,a,none⟩) n cap,.int .i64 i,.int .i64 j] w fun e w'=>e=.returned (.slice (some ⟨g,a,none⟩) (i+(n - j)) cap)/\
  w'=(w.drew.setCells g (a+i*1) ((C.toList.take n).drop j)).setCells g (a+(i+(n - j))) (List.replicate (n - (i+(n - j))) (.slice none 0 0)):=by
 obtain⟨K,D,E,F,hz2⟩:=info_parts Qdd;have H:cap<=9223372036854775807:=by simpa [maxLen] using x
 have c:∀k,w.cell? ⟨g,a+k,none⟩=C[k]?:=fun k=>by rw[m,Nat.zero_add];exact z.cell k
 have d:∀k,w.frozen? ⟨g,a+k,none⟩=false:=fun k=>z.free _
 obtain⟨news,b⟩:∃news,news=(C.toList.take n).drop j:=⟨_,rfl⟩;have p:news.length=n - j:=by rw[b];simp;omega
 have q:∀t u,news[t]?=some u->C[j+t]?=some u:=fun t u l=>by
  have G:=(gZ l).1;rw[b,List.getElem?_drop,List.getElem?_take_of_lt (by omega),Array.getElem?_toList] at l;exact l
 obtain⟨A,V,y⟩:∃A:Addr,(if cap=j then some (⟨g,a,none⟩:Addr) else some ⟨g,a+j,none⟩)=some A/\O (∀t u,news[t]?=some u->w.drew.cell? (A.add t)=some u):=by
  by_cases h:cap=j
  .
   refine⟨⟨g,a,none⟩,by simp[h],Hi fun t u l=>?_⟩;have:=(gZ l).1;omega
  .
   refine⟨⟨g,a+j,none⟩,by simp[h],Hi fun t u l=>?_⟩;rw[Qaq,Nat.add_assoc];exact(c (j+t)).trans (q t u l)
 have L:O (news.length=(n - j)*1):=Hi (by rw[Nat.mul_one];exact p);have M:O (∀u∈ news,u.oneCell'=true):=Hi fun u l=>by
  rw[b] at l;obtain⟨_,_,_,rfl⟩:=v u (List.mem_of_mem_take (List.mem_of_mem_drop l));rfl
 have N:O (∀t,t<news.length->(w.drew.cell? ⟨g,a+i*1+t,none⟩).isSome=true/\w.drew.frozen? ⟨g,a+i*1+t,none⟩=false):=Hi fun t G=>by
  rw[Nat.mul_one,Nat.add_assoc];refine⟨?_,d _⟩
  show (w.cell? _).isSome=true
  rw[c,Array.getElem?_eq_getElem (by omega)];rfl
 obtain⟨r,s⟩:∃r,r=w.drew.setCells g (a+i*1) news:=⟨_,rfl⟩;have f:SB r g 93 (layCells C (a+i*1) news):=by rw[s];exact(SB.cells news _ z.drew).1
 have P:∀ty,(Builtin.clear_ #[89] ty #[.slice (some ⟨g,a+(i+(n - j)),none⟩) (n - (i+(n - j))) (cap - (i+(n - j)))]).run prog r=.ok (.tuple #[]) (r.setCells g (a+(i+(n - j))) (List.replicate (n - (i+(n - j))) (.slice none 0 0))):=
  fun ty=>Lib.run_clear_slice r _ _ ty _ underlying89 Quq rfl rfl g (a+(i+(n - j))) _ _ (by omega) (fun t G=>by
   rw[f.cell,Array.getElem?_eq_getElem (by rw[Qcp];omega)]
   rfl) (fun t G=>f.free _)
 have I:O (r=w.drew.setCells g (a+i*1) news):=Hi s;have Q:O (news=(C.toList.take n).drop j):=Hi b;have R:i<=cap:=by omega
 have S:j<=cap:=by omega
 clear s f z q b p c d v E hz2 m B x;go_enter func126,ntmps126;go_wp2_with fail;go_region_law (refine step_append_room rfl (.tmp 22) (.tmp 25) 89 rfl 93 K 1 underlying89 D F g a i cap (by simp[Act.eval,Act.put]) A (n - j) (cap - j) news (by simp[Act.eval,Act.put]) L.o y.o M.o (by omega) N.o ?_;rw[<-I.o]);go_wp2;go_ret;exact⟨rfl,by rw[<-Q.o,<-I.o]⟩
theorem Qus(w:Vz)(B i j n:Nat)(v:Value)(xs:Vv)(h:Grow w B 93 1 IsSl v n xs)(F:j=i+1)(O:i<n):
 Calls prog 126 #[v,.int .i64 i,.int .i64 j] w fun e w'=>∃g p,v.ownBlock=some g/\p.ownBlock=some g/\e=.returned p/\Grow w' B 93 1 IsSl p (n - 1) (xs.eraseIdx i)/\Only g w w':=by
 obtain⟨f,l⟩:=h.own;rcases l with ⟨_,P⟩|⟨g,cap,b,rfl,hB,q,r,m,d,a⟩
 . omega
 obtain⟨C,hC,c⟩:=h.all g rfl;rw[q] at hC;injection hC with hC
 injection hC with hC _ _
 subst hC;rw[Nat.mul_one] at d a f;refine(Qur g 0 cap i j n b w q rfl c r d m (by omega) (by omega)).mono ?_;rintro e w' ⟨rfl,rfl⟩;have G:i+(n - j)=n - 1:=by omega
 have H:n - (n - 1)=1:=by omega
 simp only[Nat.zero_add,Nat.mul_one,G,H,a];obtain⟨I,J⟩:=SB.cells (t:=93) (g:=g) (xs.drop j) i (w:=w.drew) (C:=b) q;obtain⟨A,K⟩:=SB.cells (List.replicate 1 (.slice none 0 0)) (n - 1) I;have s:(xs.drop j).length=n - j:=by simp;omega
 have x:(layCells (layCells b i (xs.drop j)) (n - 1) (List.replicate 1 (.slice none 0 0))).size=cap:=by rw[Qcp,Qcp];exact d
 have o:∀k,(layCells (layCells b i (xs.drop j)) (n - 1) (List.replicate 1 (.slice none 0 0)))[k]?=if n - 1<=k/\k<n - 1+1 then (List.replicate 1 (Value.slice none 0 0))[k - (n - 1)]? else if i<=k/\k<i+(n - j) then (xs.drop j)[k - i]? else b[k]?:=fun k=>by
  rw[Qgw _ _ _ _ (by rw[Qcp];simp;omega),Qgw _ _ _ _ (by omega),s];simp
 have y:∀k,k<n->b[k]?=xs[k]?:=fun k hk=>by rw[<-a,List.getElem?_take_of_lt hk,Array.getElem?_toList]
 refine⟨g,_,rfl,rfl,rfl,⟨⟨?_,.inr ⟨g,cap,_,rfl,hB,A,by omega,m,by rw[Nat.mul_one];exact x,?_⟩⟩,fun L z=>?_⟩,?_⟩
 . rw[List.length_eraseIdx,if_pos (by omega),Nat.mul_one];omega
 .
  rw[Nat.mul_one];apply List.ext_getElem?;intro k;by_cases hk:k<n - 1
  .
   rw[List.getElem?_take_of_lt hk,Array.getElem?_toList,o k,if_neg (by omega),List.getElem?_eraseIdx];by_cases D:k<i
   . rw[if_neg (by omega),if_pos D]
     exact y k (by omega)
   .
    rw[if_pos (by omega),if_neg D,List.getElem?_drop]
    congr 1
    omega
  . rw[List.getElem?_eq_none (by rw[List.length_take];omega),List.getElem?_eq_none (by rw[List.length_eraseIdx,if_pos (by omega)];omega)]
 .
  have M:g=L:=by simpa [Value.ownBlock] using z
  subst M;refine⟨_,A,fun u N=>?_⟩;obtain⟨k,hk⟩:=List.mem_iff_getElem?.1 N;rw[Array.getElem?_toList,o k] at hk
  split at hk
  . obtain rfl:=List.eq_of_mem_replicate (mO hk)
    exact⟨_,_,_,rfl⟩
  .
   split at hk
   .
    have E:=List.mem_of_mem_drop (mO hk);rw[<-a] at E;exact c u (List.mem_of_mem_take E)
   . exact c u (mO (by rw[Array.getElem?_toList];exact hk))
 . have:=J.trans K
   exact⟨this.os,this.tape,this.output,this.size,this.block⟩
def IsI(u:Value):Prop:=∃n:Int,u=Value.int .i64 n
def headsV(hs:Vy):List Value:=hs.map fun h=>Value.int .i64 (h:Nat)
theorem Qk7:∀u,u∈ (Value.int .i64 0).cells.toList->IsI u:=fun u b=>by
 have e:(Value.int .i64 0).cells=#[.int .i64 0]:=by rfl
 rw[e] at b;obtain rfl:u=_:=by simpa using b
 exact⟨_,rfl⟩
theorem IsI.plain{C:Vw}(h:∀u,u∈ C.toList->IsI u):Plain C:=fun u b=>by
 obtain⟨n,rfl⟩:=h u b;exact⟨fun x=>by simp,fun m=>by simp⟩
theorem Qk8:(prog.info? 3).map (fun i=>(i.zero,i.size,i.bytes))=some (some (.int .i64 0),1,8):=by kernel_rfl
theorem SB.unlike{w:Vz}{b d:Nat}{t e:Vr}{C f:Vw}(h:SB w b t C)(c:SB w d e f)(g:t≠e):b≠d:=by
 rintro rfl;unfold SB at h c;rw[h] at c;injection c with c
 injection c with _ c _
 exact g c
theorem Grow.sb{w:Vz}{B:Nat}{e:Vr}{sz:Nat}{K:Value->Prop}{v:Value}{n:Nat}{xs:Vv}(h:Grow w B e sz K v n xs){g:Nat}(b:v.ownBlock=some g):∃C,SB w g e C/\∀u,u∈ C.toList->K u:=h.all g b
theorem Grow.lt{w:Vz}{B:Nat}{e:Vr}{sz:Nat}{K:Value->Prop}{v:Value}{n:Nat}{xs:Vv}(h:Grow w B e sz K v n xs){g:Nat}(b:v.ownBlock=some g):B<=g/\g<w.heap.size:=h.own.lt g b
theorem Grow.below{w w':Vz}{B:Nat}{e:Vr}{sz:Nat}{K:Value->Prop}{v:Value}{n:Nat}{xs:Vv}(h:Grow w B e sz K v n xs)(b:Below w.heap.size w w'):Grow w' B e sz K v n xs:=h.keep fun g c=>b.block g (h.lt c).2
theorem Grow.only{w w':Vz}{B:Nat}{e:Vr}{sz:Nat}{K:Value->Prop}{v:Value}{n:Nat}{xs:Vv}(h:Grow w B e sz K v n xs)(b:w.grownBy w' v.ownBlock)(d:∀C:Vw,(∀u,u∈ C.toList->K u)->Plain C):Fr w w':=by
 rcases ho:v.ownBlock with _|g
 . rw[ho] at b
   exact Fr.of_below ⟨b.os,b.tape,b.output,b.size,fun k hk=>b.block k hk (by simp)⟩
 .
  obtain⟨C,f,i⟩:=h.sb ho;rw[ho] at b;exact Fr.of_only ⟨b.os,b.tape,b.output,b.size,fun k hk c=>b.block k hk (by simpa using c)⟩ f (d C i)
structure SW (w u:Vz) (W K wide:Nat) (L S X:List MR) (hs:Vy) (lv sv hv b1 b2:Value):Prop where
 box:SB u (w.heap.size+1) 135 #[.int .i64 wide,b1,b2]
 res:SB u w.heap.size 135 #[.int .i64 0,.slice none 0 0,.slice none 0 0]
 left:Grow u w.heap.size 93 1 IsSl lv L.length (L.map MR.val)
 rows:Grow u w.heap.size 93 1 IsSl sv S.length (S.map MR.val)
 heads:Grow u w.heap.size 3 1 IsI hv hs.length (headsV hs)
 apart:∀g,lv.ownBlock=some g->sv.ownBlock≠some g
 okL:Oks u W K L
 okS:Oks u W K S
 okX:Oks u W K X
 base:Below w.heap.size w u
 sl:IsSl b1/\IsSl b2
section
variable {w u:Vz} {W K wide:Nat} {L S X:List MR} {hs:Vy} {lv sv hv b1 b2:Value}
theorem SW.below{c:Vz}(h:SW w u W K wide L S X hs lv sv hv b1 b2)(b:Below u.heap.size u c):SW w c W K wide L S X hs lv sv hv b1 b2:=
 ⟨h.box.below b h.box.lt,h.res.below b h.res.lt,h.left.below b,h.rows.below b,h.heads.below b,h.apart,h.okL.fr (Fr.of_below b),h.okS.fr (Fr.of_below b),h.okX.fr (Fr.of_below b),h.base.trans (b.mono h.base.size),h.sl⟩
theorem SW.alloc(h:SW w u W K wide L S X hs lv sv hv b1 b2)(o:Obj):SW w (u.alloc o) W K wide L S X hs lv sv hv b1 b2:=h.below (bR.alloc lZ _)
theorem SW.drew(h:SW w u W K wide L S X hs lv sv hv b1 b2):SW w u.drew W K wide L S X hs lv sv hv b1 b2:=h.below bR.drew
theorem row_stairs:93≠135:=by decide
theorem int_stairs:3≠135:=by decide
theorem int_row:3≠93:=by decide
theorem SW.left_only{d:Vz}{g:Nat}{f:List MR}{b:Value}(h:SW w u W K wide L S X hs lv sv hv b1 b2)(i:lv.ownBlock=some g)(j:b.ownBlock=some g)(c:Only g u d)(hl:Grow d w.heap.size 93 1 IsSl b f.length (f.map MR.val))(l:Oks d W K f):SW w d W K wide f S X hs b sv hv b1 b2:=by
 obtain⟨C,c1,c2⟩:=h.left.sb i;have e:Fr u d:=Fr.of_only c c1 (IsSl.plain c2);refine⟨h.box.only c (h.box.unlike c1 row_stairs.symm),h.res.only c (h.res.unlike c1 row_stairs.symm),hl,h.rows.keep fun k hk=>c.block k (h.rows.lt hk).2 ?_,h.heads.keep fun k hk=>c.block k (h.heads.lt hk).2 ?_,fun k hk=>?_,l,h.okS.fr e,h.okX.fr e,h.base.trans (c.below (h.left.lt i).1 h.base.size),h.sl⟩
 . rintro rfl
   exact h.apart k i hk
 . obtain⟨D,d1,_⟩:=h.heads.sb hk
   exact d1.unlike c1 int_row
 .
  rw[j] at hk;rw[<-hk];exact h.apart g i
theorem SW.app1{s:MR}{nb c:Nat}(h:SW w u W K wide L S X hs lv sv hv b1 b2)(z:u.cell? ⟨nb,0,none⟩=some s.val)(B:MOk u W K s)(T:S.length<=1000)(ty:Vr):
 ∃l g,(Builtin.append_ #[89,89] ty #[sv,.slice (some ⟨nb,0,none⟩) 1 c]).run prog u=.ok l g/\SW w g W K wide L (S++ [s]) X hs lv l hv b1 b2/\u.heap.size<=g.heap.size/\∀b i n,u.cell? ⟨b,i,none⟩=some (.int .i64 n)->g.cell? ⟨b,i,none⟩=some (.int .i64 n):=by
 obtain⟨U,O,F,G,hz2⟩:=info_parts Qdd;obtain⟨l,g,x,H,m,I⟩:=h.rows.app (P:=prog) (ty:=ty) underlying89 O F G hz2 rfl (by decide) Qk6 ⟨nb,0,none⟩ 1 c [s.val] rfl (fun j v J=>by
  match j,J with
  |0,J=>
   obtain rfl:s.val=v:=by simpa using J
   rw[Qaq]
   exact z) (fun v hv=>by obtain rfl:v=s.val:=by simpa using hv
                          rfl) (fun v hv=>by obtain rfl:v=s.val:=by simpa using hv
                                             exact⟨_,_,_,rfl⟩) (by omega) (by decide) h.base.size
 have p:Fr u g:=h.rows.only m (fun C=>IsSl.plain);have d:∀b,b<u.heap.size->sv.ownBlock≠some b->g.heap[b]?=u.heap[b]?:=fun b f q=>m.block b f (fun e=>q e.symm)
 have q:∀{b:Nat} {t:Vr} {C:Vw},SB u b t C->t≠93->sv.ownBlock≠some b:=fun {b t C} f M z=>by
  obtain⟨D,d1,_⟩:=h.rows.sb z;exact f.unlike d1 M rfl
 have A:∀{b:Nat} {t:Vr} {C:Vw},SB u b t C->t≠93->SB g b t C:=fun {b t C} f M=>by
  have R:=d b f.lt (q f M);unfold SB at f ⊢;rw[R];exact f
 have y:Below w.heap.size w g:=h.base.grown m h.base.size (fun k hk=>(h.rows.lt hk).1);refine⟨l,g,x,⟨A h.box row_stairs.symm,A h.res row_stairs.symm,h.left.keep fun k hk=>d k (h.left.lt hk).2 (h.apart k hk),by rw[List.map_append,List.length_append];exact H,h.heads.keep fun k hk=>?_,fun k hk=>?_,h.okL.fr p,fun r x=>?_,h.okX.fr p,y,h.sl⟩,m.size,fun b i n f=>?_⟩
 . obtain⟨D,d1,_⟩:=h.heads.sb hk
   exact d k (h.heads.lt hk).2 (q d1 int_row)
 .
  rcases I with e|e
  . rw[e]
    exact h.apart k hk
  .
   rw[e];have:=(h.left.lt hk).2;intro N;injection N with N
   omega
 .
  rcases List.mem_append.1 x with x|x
  . exact(h.okS r x).fr p
  . obtain rfl:r=s:=by simpa using x
    exact B.fr p
 .
  refine(World.cell?_of_block (w:=u) (a:=⟨b,i,none⟩) (d b (World.block_lt_of_cell? _ _ f) fun z=>?_)).trans f;obtain⟨D,d1,d2⟩:=h.rows.sb z;rw[d1.cell] at f;obtain⟨_,_,_,e⟩:=d2 _ (mO (by rw[Array.getElem?_toList];exact f));cases e
theorem SW.app2{k nb c:Nat}(h:SW w u W K wide L S X hs lv sv hv b1 b2)(r:u.cell? ⟨nb,0,none⟩=some (.int .i64 (k:Nat)))(I:hs.length<=1000)(ty:Vr):
 ∃g i,(Builtin.append_ #[99,99] ty #[hv,.slice (some ⟨nb,0,none⟩) 1 c]).run prog u=.ok g i/\SW w i W K wide L S X (hs++ [k]) lv sv g b1 b2:=by
 obtain⟨J,B,s,x,hz2⟩:=info_parts Qk8;obtain⟨g,i,F,y,m,G⟩:=h.heads.app (P:=prog) (ty:=ty) underlying99 B s x hz2 rfl (by decide) Qk7 ⟨nb,0,none⟩ 1 c [.int .i64 (k:Nat)] rfl (fun j v z=>by
  match j,z with
  |0,z=>
   obtain rfl:_=v:=by simpa using z
   rw[Qaq]
   exact r) (fun v hv=>by obtain rfl:v=_:=by simpa using hv
                          rfl) (fun v hv=>by obtain rfl:v=_:=by simpa using hv
                                             exact⟨_,rfl⟩) (by omega) (by decide) h.base.size
 have n:Fr u i:=h.heads.only m (fun C=>IsI.plain);have d:∀b,b<u.heap.size->hv.ownBlock≠some b->i.heap[b]?=u.heap[b]?:=fun b l f=>m.block b l (fun e=>f e.symm)
 have f:∀{b:Nat} {t:Vr} {C:Vw},SB u b t C->t≠3->hv.ownBlock≠some b:=fun {b t C} l A r=>by
  obtain⟨D,d1,_⟩:=h.heads.sb r;exact l.unlike d1 A rfl
 have q:∀{b:Nat} {t:Vr} {C:Vw},SB u b t C->t≠3->SB i b t C:=fun {b t C} l A=>by
  have H:=d b l.lt (f l A);unfold SB at l ⊢;rw[H];exact l
 have p:Below w.heap.size w i:=h.base.grown m h.base.size (fun k hk=>(h.heads.lt hk).1);refine⟨g,i,F,⟨q h.box int_stairs.symm,q h.res int_stairs.symm,h.left.keep fun k hk=>?_,h.rows.keep fun k hk=>?_,?_,h.apart,h.okL.fr n,h.okS.fr n,h.okX.fr n,p,h.sl⟩⟩
 . obtain⟨D,d1,_⟩:=h.left.sb hk
   exact d k (h.left.lt hk).2 (f d1 int_row.symm)
 . obtain⟨D,d1,_⟩:=h.rows.sb hk
   exact d k (h.rows.lt hk).2 (f d1 int_row.symm)
 .
  have e:headsV (hs++ [k])=headsV hs++ [.int .i64 (k:Nat)]:=by simp[headsV]
  rw[e,List.length_append];exact y
theorem SW.put(h:SW w u W K wide L S X hs lv sv hv b1 b2):SW w ((u.setCell ⟨w.heap.size+1,1,none⟩ sv).setCell ⟨w.heap.size+1,2,none⟩ hv) W K wide L S X hs lv sv hv sv hv:=by
 have i:Only (w.heap.size+1) u ((u.setCell ⟨w.heap.size+1,1,none⟩ sv).setCell ⟨w.heap.size+1,2,none⟩ hv):=((Only.refl _ _).setCell _ _).setCell _ _;have f:∀{B:Nat} {e:Vr} {sz:Nat} {Q:Value->Prop} {v:Value} {n:Nat} {xs:Vv},Grow u B e sz Q v n xs->∃x y z,v=Value.slice x y z:=fun {B e sz Q v n xs} b=>by
  rcases b.own.2 with ⟨rfl,_⟩|⟨g,cap,m,rfl,_⟩
  . exact⟨_,_,_,rfl⟩
  . exact⟨_,_,_,rfl⟩
 have c:∀{B:Nat} {e:Vr} {sz:Nat} {Q:Value->Prop} {v:Value} {n:Nat} {xs:Vv},e≠135->Grow u B e sz Q v n xs->Grow ((u.setCell ⟨w.heap.size+1,1,none⟩ sv).setCell ⟨w.heap.size+1,2,none⟩ hv) B e sz Q v n xs:=fun {B e sz Q v n xs} p b=>b.keep fun k hk=>i.block k (b.lt hk).2 (by
  obtain⟨D,d1,_⟩:=b.sb hk
  exact d1.unlike h.box p)
 have j:=(h.box.set 1 sv).set 2 hv;have l:Plain #[.int .i64 (wide:Int),b1,b2]:=fun v hv=>by
  obtain⟨x1,x2,x3,q⟩:=h.sl.1;obtain⟨y1,y2,y3,r⟩:=h.sl.2;subst q;subst r;simp at hv;rcases hv with rfl|rfl|rfl
  . exact⟨by simp,by simp⟩
  . exact⟨by simp,by simp⟩
  . exact⟨by simp,by simp⟩
 have d:Fr u ((u.setCell ⟨w.heap.size+1,1,none⟩ sv).setCell ⟨w.heap.size+1,2,none⟩ hv):=Fr.of_only i h.box l;exact⟨by simpa using j,h.res.only i (by omega),c row_stairs h.left,c row_stairs h.rows,c int_stairs h.heads,h.apart,h.okL.fr d,h.okS.fr d,h.okX.fr d,h.base.trans (i.below (Nat.le_succ _) h.base.size),f h.rows,f h.heads⟩
end
theorem Grow.mono{w:Vz}{B c:Nat}{e:Vr}{sz:Nat}{K:Value->Prop}{v:Value}{n:Nat}{xs:Vv}(h:Grow w B e sz K v n xs)(hB:c<=B):Grow w c e sz K v n xs:=by
 refine⟨⟨h.own.1,?_⟩,h.all⟩;rcases h.own.2 with d|⟨g,cap,b,rfl,f,i⟩
 . exact .inl d
 . exact .inr ⟨g,cap,b,rfl,Nat.le_trans hB f,i⟩
theorem Grow.slice{w:Vz}{B sz:Nat}{e:Vr}{K:Value->Prop}{v:Value}{n:Nat}{xs:Vv}(h:Grow w B e sz K v n xs):
 ∃a cap,v=.slice a n cap/\n<=cap/\CRow w a xs/\(0<n->∃g,a=some ⟨g,0,none⟩/\v.ownBlock=some g):=by
 rcases h.own.2 with ⟨rfl,rfl⟩|⟨g,cap,f,rfl,m,i,b,k,l,c⟩
 .
  have:xs= []:=List.eq_nil_of_length_eq_zero (by simpa using h.own.1);subst this;exact⟨none,0,rfl,Nat.le_refl _,⟨fun j u d=>by simp at d⟩,fun h=>by omega⟩
 .
  refine⟨some ⟨g,0,none⟩,cap,rfl,b,⟨fun j u d=>⟨g,0,rfl,SB.lt i,?_⟩⟩,fun _=>⟨g,rfl,rfl⟩⟩;have:=h.own.cells (g:=g) rfl j u d;rw[Qaq] at this;exact this
theorem Grow.mat{w:Vz}{B W K:Nat}{v:Value}{L:List MR}(h:Grow w B 93 1 IsSl v L.length (L.map MR.val))(b:Oks w W K L):
 ∃a cap,v=.slice a L.length cap/\QMat w a cap W L/\(0<L.length->∃g,a=some ⟨g,0,none⟩):=by
 obtain⟨a,cap,e,d,c,f⟩:=h.slice;refine⟨a,cap,e,⟨⟨d,by rw[Qeq];exact c⟩,fun r c=>⟨(b r c).row,(b r c).len⟩⟩,fun i=>?_⟩;obtain⟨g,j,_⟩:=f i;exact⟨g,j⟩
theorem Grow.set{w:Vz}{B g cap:Nat}{e:Vr}{K:Value->Prop}{n k:Nat}{xs:Vv}{x:Value}(h:Grow w B e 1 K (.slice (some ⟨g,0,none⟩) n cap) n xs)(hk:k<n)(y:K x):Grow (w.setCell ⟨g,k,none⟩ x) B e 1 K (.slice (some ⟨g,0,none⟩) n cap) n (xs.set k x):=by
 obtain⟨d,f⟩:=h.own;rcases f with ⟨b,_⟩|⟨t,cap',m,b,z,v,p,q,r,c⟩
 . cases b
 .
  injection b with b _ A
  injection b with b
  injection b with b _ _
  subst b;subst A;obtain⟨C,hC,i⟩:=h.all g rfl;rw[v] at hC;injection hC with hC
  injection hC with hC _ _
  subst hC;have j:SB (w.setCell ⟨g,k,none⟩ x) g e (m.setIfInBounds k x):=SB.set v k x;refine⟨⟨by rw[List.length_set];exact d,.inr ⟨g,cap,_,rfl,z,j,p,q,by simpa using r,?_⟩⟩,fun t s=>?_⟩
  . rw[Array.toList_setIfInBounds,List.take_set,c]
  .
   have e:g=t:=by simpa [Value.ownBlock] using s
   subst e;refine⟨_,j,fun u l=>?_⟩;rw[Array.toList_setIfInBounds] at l;rcases List.mem_or_eq_of_mem_set l with l|rfl
   . exact i u l
   . exact y
theorem Grow.free{w:Vz}{B g cap l:Nat}{e:Vr}{K:Value->Prop}{n:Nat}{xs:Vv}(h:Grow w B e 1 K (.slice (some ⟨g,0,none⟩) l cap) n xs)(k:Nat):w.frozen? ⟨g,k,none⟩=false:=by
 obtain⟨C,hC,_⟩:=h.sb (g:=g) rfl;exact hC.free k
theorem Grow.cell{w:Vz}{B g cap l:Nat}{e:Vr}{K:Value->Prop}{n k:Nat}{xs:Vv}{x:Value}(h:Grow w B e 1 K (.slice (some ⟨g,0,none⟩) l cap) n xs)(hk:xs[k]?=some x):w.cell? ⟨g,k,none⟩=some x:=by
 have:=h.own.cells (g:=g) rfl k x hk;rw[Qaq,Nat.zero_add] at this;exact this
theorem SW.setL{w u:Vz}{W K wide g cap m n:Nat}{L S X:List MR}{hs:Vy}{sv hv b1 b2:Value}{r:MR}(h:SW w u W K wide L S X hs (.slice (some ⟨g,0,none⟩) n cap) sv hv b1 b2)(e:n=L.length)(f:m<L.length)(i:MOk u W K r):SW w (u.setCell ⟨g,m,none⟩ r.val) W K wide (L.set m r) S X hs (.slice (some ⟨g,0,none⟩) n cap) sv hv b1 b2:=by
 subst e;have d:Only g u (u.setCell ⟨g,m,none⟩ r.val):=(Only.refl _ _).setCell _ _;obtain⟨C,c1,c2⟩:=h.left.sb (g:=g) rfl;have b:=Fr.of_only d c1 (IsSl.plain c2);refine h.left_only rfl rfl d ?_ fun x c=>?_
 . rw[List.length_set,List.map_set]
   exact h.left.set f ⟨_,_,_,rfl⟩
 .
  rcases List.mem_or_eq_of_mem_set c with c|rfl
  . exact(h.okL x c).fr b
  . exact i.fr b
theorem Qgx{α β:Type}(f:α->β):∀(l:List α) (i:Nat),(l.map f).eraseIdx i=(l.eraseIdx i).map f
 | [],_=>rfl
 |_ :: _,0=>rfl
 |x :: l,i+1=>by simp only[List.map_cons,List.eraseIdx_cons_succ];rw[Qgx f l i]
theorem Grow.form{w:Vz}{B sz:Nat}{e:Vr}{K:Value->Prop}{v:Value}{n:Nat}{xs:Vv}(h:Grow w B e sz K v n xs){g:Nat}(b:v.ownBlock=some g):∃cap,v=.slice (some ⟨g,0,none⟩) n cap:=by
 rcases h.own.2 with ⟨rfl,_⟩|⟨c,cap,d,rfl,_⟩
 . simp[Value.ownBlock] at b
 . obtain rfl:c=g:=by simpa [Value.ownBlock] using b
   exact⟨cap,rfl⟩
section
variable {w u:Vz} {W K wide:Nat} {L S X:List MR} {hs:Vy} {lv sv hv b1 b2:Value}
theorem SW.erase{f:Vz}{g j:Nat}{i:Value}(h:SW w u W K wide L S X hs lv sv hv b1 b2)(l:lv.ownBlock=some g)(c:i.ownBlock=some g)(m:Only g u f)(d:Grow f w.heap.size 93 1 IsSl i (L.length - 1) ((L.map MR.val).eraseIdx j))(n:j<L.length):
 ∃cap,i=.slice (some ⟨g,0,none⟩) (L.eraseIdx j).length cap/\SW w f W K wide (L.eraseIdx j) S X hs i sv hv b1 b2:=by
 have b:(L.eraseIdx j).length=L.length - 1:=by rw[List.length_eraseIdx,if_pos n]
 obtain⟨cap,e⟩:=d.form c;obtain⟨C,c1,c2⟩:=h.left.sb l;have k:Fr u f:=Fr.of_only m c1 (IsSl.plain c2);refine⟨cap,by rw[b];exact e,h.left_only l c m ?_ fun r p=>(h.okL r (List.mem_of_mem_eraseIdx p)).fr k⟩;rw[b,<-Qgx];exact d
theorem SW.withX{Y:List MR}(h:SW w u W K wide L S X hs lv sv hv b1 b2)(b:Oks u W K Y):SW w u W K wide L S Y hs lv sv hv b1 b2:=⟨h.box,h.res,h.left,h.rows,h.heads,h.apart,h.okL,h.okS,b,h.base,h.sl⟩
variable {P:Program} {ops:Array Oper} {o:Oper} {a:Act} {K':Act->World->Prop} {Q:Exit->Act->World->Prop} {E:Prop}
end
theorem Grow.frac_ne{w:Vz}{B sz:Nat}{e:Vr}{v:Value}{n:Nat}{xs:Vv}(h:Grow w B e sz IsSl v n xs){g b i:Nat}{x y z:Value}{q:Rat}(p:v.ownBlock=some g)(f:w.cell? ⟨b,i,none⟩=some x)(r:FracV w (.agg #[x,y,z]) q):g≠b:=by
 rintro rfl;obtain⟨C,c1,c2⟩:=h.sb p;rw[c1.cell] at f;obtain⟨_,_,_,j⟩:=c2 x (mO (by rw[Array.getElem?_toList];exact f));obtain⟨neg,a,m,c,b,k,d,l,_⟩:=r;simp at l;rw[l.1] at j;cases j
theorem SW.done{w u:Vz}{W K wide:Nat}{L S X:List MR}{hs:Vy}{lv sv hv b1 b2:Value}(h:SW w u W K wide L S X hs lv sv hv b1 b2)(x y z:Value):
 Grow (((u.setCell ⟨w.heap.size,0,none⟩ x).setCell ⟨w.heap.size,1,none⟩ y).setCell ⟨w.heap.size,2,none⟩ z) w.heap.size 93 1 IsSl sv S.length (S.map MR.val)/\Grow (((u.setCell ⟨w.heap.size,0,none⟩ x).setCell ⟨w.heap.size,1,none⟩ y).setCell ⟨w.heap.size,2,none⟩ z) w.heap.size 3 1 IsI hv hs.length (headsV hs)/\
  Oks (((u.setCell ⟨w.heap.size,0,none⟩ x).setCell ⟨w.heap.size,1,none⟩ y).setCell ⟨w.heap.size,2,none⟩ z) W K S/\Below w.heap.size w (((u.setCell ⟨w.heap.size,0,none⟩ x).setCell ⟨w.heap.size,1,none⟩ y).setCell ⟨w.heap.size,2,none⟩ z):=by
 have b:Only w.heap.size u (((u.setCell ⟨w.heap.size,0,none⟩ x).setCell ⟨w.heap.size,1,none⟩ y).setCell ⟨w.heap.size,2,none⟩ z):=(((Only.refl _ _).setCell _ _).setCell _ _).setCell _ _;have c:Plain #[.int .i64 0,.slice none 0 0,.slice none 0 0]:=fun v hv=>by
  simp at hv;rcases hv with rfl|rfl
  . exact⟨by simp,by simp⟩
  . exact⟨by simp,by simp⟩
 refine⟨h.rows.keep fun k hk=>b.block k (h.rows.lt hk).2 ?_,h.heads.keep fun k hk=>b.block k (h.heads.lt hk).2 ?_,h.okS.fr (Fr.of_only b h.res c),h.base.trans (b.below lZ h.base.size)⟩
 . obtain⟨D,d1,_⟩:=h.rows.sb hk
   exact d1.unlike h.res row_stairs
 . obtain⟨D,d1,_⟩:=h.heads.sb hk
   exact d1.unlike h.res int_stairs
structure Going (K:Nat) (I:Nat->List Vec->List Vec->List Nat->Prop):Prop where
 fit:∀{c:Nat} {L S:List Vec} {hs:Vy},I c L S hs->∀r,r∈ L->∀i,Fits (r i) K
 skip:∀{c:Nat} {L S:List Vec} {hs:Vy},I c L S hs->(∀r,r∈ L->r c=0)->I (c+1) L S hs
 step:∀{c j:Nat} {L S:List Vec} {hs:Vy} {s:Vec},I c L S hs->L[j]?=some s->s c≠0->I (c+1) ((L.eraseIdx j).map (lessBy c s)) (S++ [s]) (hs++ [c])
theorem Qut{c:Nat}{s r:Vec}(h:r c=0):lessBy c s r=r:=by
 funext i;unfold lessBy;rw[h];grind
end Go.Proofs.YtppkmifkpjkgpaaGreatDoor
