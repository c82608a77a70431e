/- package force: totalAround. -/
import Derived.Test.YtbbkamnfjejceaaGreatDoorS40ForceD
import Derived.Test.YtbbkamnfjejceaaGreatDoorS41Orders
namespace Go.Proofs.YtbbkamnfjejceaaGreatDoor
open Go.RowKit
set_option linter.unusedVariables false
set_option linter.unusedSimpArgs false
def TNew(w:World)(fs:List F4)(ox oy:Rat)(K:Nat)(e:Ending)(w':World):Prop:=∃x y t x1 x2 x3 y1 y2 y3 t1 t2 t3,Sums ox oy fs x y t∧e=.returned (.agg #[x1,x2,x3,y1,y2,y3,t1,t2,t3])∧FBag w w' [⟨x1,x2,x3,x,K⟩,⟨y1,y2,y3,y,K⟩,⟨t1,t2,t3,t,K⟩]
def sz(f:F4):Nat:=f.ax.size+f.ay.size+f.wx.size+f.wy.size
def wt(m:Nat):List F4→Nat
 | []=>0
 |f :: fs=>(16*sz f+8*m+20)+wt m fs
theorem Qfc(m:Nat)(l k:List F4):wt m (l++k)=wt m l+wt m k:=by
 induction l with
 |nil=>simp[wt]
 |cons f l ih=>simp only[List.cons_append,wt,ih];omega
theorem Qfd(m:Nat)(fs:List F4)(k:Nat)(f:F4)(h:fs[k]?=some f):wt m (fs.take (k+1))=wt m (fs.take k)+(16*sz f+8*m+20):=by
 rw[Qej fs k f h,Qfc];simp[wt]
theorem wt_le(m:Nat)(fs:List F4)(k:Nat)(f:F4)(h:fs[k]?=some f):wt m (fs.take k)+(16*sz f+8*m+20)≤wt m fs:=by
 rw[←Qfd m fs k f h]
 conv=>rhs;rw[←List.take_append_drop (k+1) fs,Qfc]
 omega
structure ZBag (w0 w:World) (Z:List Nat) (L:List FE):Prop where
 bag:FBag w0 w L
 zs:∀n,n∈ Z→w0.heap.size≤n∧SB w n 79 #[.bool false,.slice none 0 0,.slice none 0 0,.bool false,.slice none 0 0,.slice none 0 0]
theorem ZBag.drew{w0 w:World}{Z:List Nat}{L:List FE}(h:ZBag w0 w Z L):ZBag w0 w.drew Z L:=⟨h.bag.drew,fun n hn=>⟨(h.zs n hn).1,(h.zs n hn).2.drew⟩⟩
theorem ZBag.alloc{w0 w:World}{Z:List Nat}{L:List FE}(h:ZBag w0 w Z L):ZBag w0 (w.alloc (.cells #[.bool false,.slice none 0 0,.slice none 0 0,.bool false,.slice none 0 0,.slice none 0 0] 79)) (w.heap.size :: Z) L:=by
 refine⟨h.bag.alloc _,fun n hn=>?_⟩;rcases List.mem_cons.1 hn with rfl|hn
 · exact⟨h.bag.base.size,SB.new w _ _⟩
 · exact⟨(h.zs n hn).1,(h.zs n hn).2.alloc _⟩
theorem ZBag.vof{w0 w:World}{Z:List Nat}{L:List FE}{n:Nat}(s t:ByteArray)(h:ZBag w0 w Z L)(hn:n≤1073741824)(hs:s.size≤n)(ht:t.size≤n):
 Calls Tryz.prog 33 #[.agg #[.string s,.string t]] w (fun e w'=>∃p q,QOf s.data.toList p∧QOf t.data.toList q∧∃x1 x2 x3 y1 y2 y3,e=.returned (.agg #[x1,x2,x3,y1,y2,y3])∧ZBag w0 w' Z (⟨x1,x2,x3,p,4*n+1⟩ :: ⟨y1,y2,y3,q,4*n+1⟩ :: L)∧w.heap.size≤w'.heap.size):=by
 refine(h.bag.rebase.vof s t hn hs ht).mono ?_;rintro e w' ⟨p,q,h1,h2,x1,x2,x3,y1,y2,y3,rfl,hb⟩;refine⟨p,q,h1,h2,x1,x2,x3,y1,y2,y3,rfl,⟨hb.from h.bag.base h.bag.glob (fun t ht=>⟨t.k,ht,Nat.le_refl _⟩),fun n hn=>⟨(h.zs n hn).1,(h.zs n hn).2.below hb.base (h.zs n hn).2.lt⟩⟩,hb.base.size⟩
def set6(w:World)(g:Nat)(a1 a2 a3 a4 a5 a6:Value):World:=(((((w.setCell ⟨g,0,none⟩ a1).setCell ⟨g,1,none⟩ a2).setCell ⟨g,2,none⟩ a3).setCell ⟨g,3,none⟩ a4).setCell ⟨g,4,none⟩ a5).setCell ⟨g,5,none⟩ a6
theorem only6(w:World)(g:Nat)(a1 a2 a3 a4 a5 a6:Value):Only g w (set6 w g a1 a2 a3 a4 a5 a6):=((((((Only.refl g w).setCell 0 a1).setCell 1 a2).setCell 2 a3).setCell 3 a4).setCell 4 a5).setCell 5 a6
theorem ZBag.end{w0 W:World}{Z:List Nat}{L:List FE}{g7 g8:Nat}{a1 a2 a3 a4 a5 a6 b1 b2 b3 b4 b5 b6:Value}(h:ZBag w0 W Z L)(h7:g7∈ Z)(h8:g8∈ Z)(hne:g8≠g7):
 FBag w0 (set6 (set6 W g7 a1 a2 a3 a4 a5 a6) g8 b1 b2 b3 b4 b5 b6) L∧SB (set6 (set6 W g7 a1 a2 a3 a4 a5 a6) g8 b1 b2 b3 b4 b5 b6) g7 79 #[a1,a2,a3,a4,a5,a6]∧SB (set6 (set6 W g7 a1 a2 a3 a4 a5 a6) g8 b1 b2 b3 b4 b5 b6) g8 79 #[b1,b2,b3,b4,b5,b6]∧w0.heap.size≤g7∧w0.heap.size≤g8:=by
 have z7:=h.zs g7 h7;have z8:=h.zs g8 h8;have o7:=only6 W g7 a1 a2 a3 a4 a5 a6;have o8:=only6 (set6 W g7 a1 a2 a3 a4 a5 a6) g8 b1 b2 b3 b4 b5 b6;have s8:=z8.2.only o7 hne;have s7:SB (set6 W g7 a1 a2 a3 a4 a5 a6) g7 79 #[a1,a2,a3,a4,a5,a6]:=(((((z7.2.set 0 a1).set 1 a2).set 2 a3).set 3 a4).set 4 a5).set 5 a6;exact⟨(h.bag.only o7 z7.2 Qay z7.1).only o8 s8 Qay z8.1,s7.only o8 (Ne.symm hne),(((((s8.set 0 b1).set 1 b2).set 2 b3).set 3 b4).set 4 b5).set 5 b6,z7.1,z8.1⟩
theorem no9{w:World}{x1 x2 x3 x4 x5 x6 x7 x8 x9:Value}{p q r:Rat}(h1:FracV w (.agg #[x1,x2,x3]) p)(h2:FracV w (.agg #[x4,x5,x6]) q)(h3:FracV w (.agg #[x7,x8,x9]) r):NoU64 #[x1,x2,x3,x4,x5,x6,x7,x8,x9]:=Qdm (by
 intro v hv n;simp only[List.mem_cons,List.not_mem_nil,or_false] at hv;rcases hv with rfl|rfl|rfl|rfl|rfl|rfl|rfl|rfl|rfl
 · exact(h1.no64 n).1
 · exact(h1.no64 n).2.1
 · exact(h1.no64 n).2.2
 · exact(h2.no64 n).1
 · exact(h2.no64 n).2.1
 · exact(h2.no64 n).2.2
 · exact(h3.no64 n).1
 · exact(h3.no64 n).2.1
 · exact(h3.no64 n).2.2)
def CutR(wr:World)(f:F4)(L:List FE)(n:Nat)(s7 s8:Value)(wx:World):Prop:=∃(g7 g8:Nat) (px py qx qy:Rat) (z1 z2 z3 z4 z5 z6 v1 v2 v3 v4 v5 v6:Value),s7=.pointer (some ⟨g7,0,none⟩)∧s8=.pointer (some ⟨g8,0,none⟩)∧Q4 f px py qx qy∧FBag wr wx (⟨v1,v2,v3,qx,4*n+1⟩ :: ⟨v4,v5,v6,qy,4*n+1⟩ :: ⟨z1,z2,z3,px,4*n+1⟩ :: ⟨z4,z5,z6,py,4*n+1⟩ :: L)∧SB wx g7 79 #[z1,z2,z3,z4,z5,z6]∧SB wx g8 79 #[v1,v2,v3,v4,v5,v6]∧wr.heap.size≤g7∧wr.heap.size≤g8
def CutW(wr wx:World)(L:List FE)(g7 g8:Nat)(z1 z2 z3 z4 z5 z6 v1 v2 v3 v4 v5 v6:Value):Prop:=FBag wr wx L∧SB wx g7 79 #[z1,z2,z3,z4,z5,z6]∧SB wx g8 79 #[v1,v2,v3,v4,v5,v6]∧wr.heap.size≤g7∧wr.heap.size≤g8
theorem CutR.of{wr wx:World}{f:F4}{L:List FE}{n g7 g8:Nat}{px py qx qy:Rat}{z1 z2 z3 z4 z5 z6 v1 v2 v3 v4 v5 v6:Value}(h1:QOf f.ax.data.toList px)(h2:QOf f.ay.data.toList py)(h3:QOf f.wx.data.toList qx)(h4:QOf f.wy.data.toList qy)(h:CutW wr wx (⟨v1,v2,v3,qx,4*n+1⟩ :: ⟨v4,v5,v6,qy,4*n+1⟩ :: ⟨z1,z2,z3,px,4*n+1⟩ :: ⟨z4,z5,z6,py,4*n+1⟩ :: L) g7 g8 z1 z2 z3 z4 z5 z6 v1 v2 v3 v4 v5 v6):
 CutR wr f L n (.pointer (some ⟨g7,0,none⟩)) (.pointer (some ⟨g8,0,none⟩)) wx:=
 ⟨g7,g8,px,py,qx,qy,z1,z2,z3,z4,z5,z6,v1,v2,v3,v4,v5,v6,rfl,rfl,⟨h1,h2,h3,h4⟩,h.1,h.2.1,h.2.2.1,h.2.2.2.1,h.2.2.2.2⟩
theorem ZBag.cutAll{wr W:World}{Z:List Nat}{L:List FE}{g7 g8:Nat}{z1 z2 z3 z4 z5 z6 v1 v2 v3 v4 v5 v6:Value}(h:ZBag wr W Z L)(h7:g7∈ Z)(h8:g8∈ Z)(hne:g8≠g7):CutW wr ((((((((((((W.setCell ⟨g7,0,none⟩ z1).setCell ⟨g7,1,none⟩ z2).setCell ⟨g7,2,none⟩ z3).setCell ⟨g7,3,none⟩ z4).setCell ⟨g7,4,none⟩ z5).setCell ⟨g7,5,none⟩ z6).setCell ⟨g8,0,none⟩ v1).setCell ⟨g8,1,none⟩ v2).setCell ⟨g8,2,none⟩ v3).setCell ⟨g8,3,none⟩ v4).setCell ⟨g8,4,none⟩ v5).setCell ⟨g8,5,none⟩ v6) L g7 g8 z1 z2 z3 z4 z5 z6 v1 v2 v3 v4 v5 v6:=h.end h7 h8 hne
theorem ZBag.cutNew{wr W:World}{Z:List Nat}{L:List FE}{z1 z2 z3 z4 z5 z6 v1 v2 v3 v4 v5 v6:Value}(h:ZBag wr W Z L):CutW wr ((W.alloc (.cells #[z1,z2,z3,z4,z5,z6] 79)).alloc (.cells #[v1,v2,v3,v4,v5,v6] 79)) L W.heap.size (W.heap.size+1) z1 z2 z3 z4 z5 z6 v1 v2 v3 v4 v5 v6:=
 ⟨(h.bag.alloc _).alloc _,(SB.new W _ _).alloc _,SB.new2 W _ _ _ _,h.bag.base.size,by have:=h.bag.base.size;omega⟩
theorem ZBag.cutNew'{wr W:World}{Z:List Nat}{L:List FE}{z1 z2 z3 z4 z5 z6 v1 v2 v3 v4 v5 v6:Value}(h:ZBag wr W Z L):CutW wr ((W.alloc (.cells #[v1,v2,v3,v4,v5,v6] 79)).alloc (.cells #[z1,z2,z3,z4,z5,z6] 79)) L (W.heap.size+1) W.heap.size z1 z2 z3 z4 z5 z6 v1 v2 v3 v4 v5 v6:=
 ⟨(h.bag.alloc _).alloc _,SB.new2 W _ _ _ _,(SB.new W _ _).alloc _,by have:=h.bag.base.size;omega,h.bag.base.size⟩
theorem ZBag.cutMix{wr W:World}{Z:List Nat}{L:List FE}{g8:Nat}{z1 z2 z3 z4 z5 z6 v1 v2 v3 v4 v5 v6:Value}(h:ZBag wr W Z L)(h8:g8∈ Z):CutW wr ((((((((W.alloc (.cells #[z1,z2,z3,z4,z5,z6] 79)).setCell ⟨g8,0,none⟩ v1).setCell ⟨g8,1,none⟩ v2).setCell ⟨g8,2,none⟩ v3).setCell ⟨g8,3,none⟩ v4).setCell ⟨g8,4,none⟩ v5).setCell ⟨g8,5,none⟩ v6)) L W.heap.size g8 z1 z2 z3 z4 z5 z6 v1 v2 v3 v4 v5 v6:=by
 have z8:=h.zs g8 h8;have s8:=z8.2.alloc (.cells #[z1,z2,z3,z4,z5,z6] 79);have o8:=only6 (W.alloc (.cells #[z1,z2,z3,z4,z5,z6] 79)) g8 v1 v2 v3 v4 v5 v6;have hne:W.heap.size≠g8:=by have:=z8.2.lt;omega
 exact⟨(h.bag.alloc _).only o8 s8 Qay z8.1,(SB.new W _ _).only o8 hne,(((((s8.set 0 v1).set 1 v2).set 2 v3).set 3 v4).set 4 v5).set 5 v6,h.bag.base.size,z8.1⟩
set_option maxRecDepth 100000 in
set_option maxHeartbeats 4000000 in
theorem Qcq(a:Option Addr)(cap m W:Nat)(fs:List F4)(a1 a2 a3 a4 a5 a6:Value)(ox oy:Rat)(w:World)(h:FBag w w [⟨a1,a2,a3,ox,4*m+1⟩,⟨a4,a5,a6,oy,4*m+1⟩])(hf:FRow w a cap fs)(hl:fs.length≤60)
 (hm:m≤1073741824) (hW:wt m fs≤W) (hWW:W<60000000000) (hs:∀f,f∈ fs→sz f≤1073741824):
 Calls Tryz.prog 32 #[.slice a fs.length cap,.agg #[a1,a2,a3,a4,a5,a6]] w (TNew w fs ox oy (wt m fs+1)):=by
 have HF:=Hi hf;have HS:=Hi hs;have HH:=Hi h;have HGL:=Hi h.glob;clear hf hs h;go_enter Tryz.func32,Tryz.ntmps32;go_wp2_with fail;go_loopw [11] (fun iv wr=>∃(k:Nat) (x y t:Rat) (x1 x2 x3 y1 y2 y3 t1 t2 t3:Value),k≤fs.length∧iv=.int .i64 k∧Sums ox oy (fs.take k) x y t∧FBag w wr [⟨x1,x2,x3,x,wt m (fs.take k)+1⟩,⟨y1,y2,y3,y,wt m (fs.take k)+1⟩,⟨t1,t2,t3,t,wt m (fs.take k)+1⟩,⟨a1,a2,a3,ox,4*m+1⟩,⟨a4,a5,a6,oy,4*m+1⟩]∧SB wr w.heap.size 79 #[a1,a2,a3,a4,a5,a6]∧SB wr (w.heap.size+1) 81 #[.bool false,.slice none 0 0,.slice none 0 0,.bool false,.slice none 0 0,.slice none 0 0,.bool false,.slice none 0 0,.slice none 0 0]∧SB wr (w.heap.size+1+1) 81 #[x1,x2,x3,y1,y2,y3,t1,t2,t3]) (fun iv _=>fs.length - (intOf iv).toNat)
 case atStart=>
  have hb:=HH.out.below (Below.new3 w (.cells #[a1,a2,a3,a4,a5,a6] 79) (.cells #[.bool false,.slice none 0 0,.slice none 0 0,.bool false,.slice none 0 0,.slice none 0 0,.bool false,.slice none 0 0,.slice none 0 0] 81) (.cells #[.bool false,.slice none 0 0,.slice none 0 0,.bool false,.slice none 0 0,.slice none 0 0,.bool false,.slice none 0 0,.slice none 0 0] 81));refine⟨0,0,0,0,.bool false,.slice none 0 0,.slice none 0 0,.bool false,.slice none 0 0,.slice none 0 0,.bool false,.slice none 0 0,.slice none 0 0,by omega,rfl,Sums.nil,?_,((SB.new w _ _).alloc _).alloc _,(SB.new2 w _ _ _ _).alloc _,SB.new3 w _ _ _ _ _ _⟩;exact hb.zero.zero.zero
 case round=>
  obtain⟨k,x,y,t,x1,x2,x3,y1,y2,y3,t1,t2,t3,hk,rfl,hsum,hbag,hsa,hsr,hst⟩:=hrel;have HSU:=Hi hsum;have HB:=Hi hbag;have HSA:=Hi hsa;have HSR:=Hi hsr;have HST:=Hi hst;clear hsum hbag hsa hsr hst;by_cases hlt:k<fs.length
  ·
   obtain⟨f,hf⟩:∃f,fs[k]?=some f:=⟨fs[k],List.getElem?_eq_getElem hlt⟩;obtain⟨fb,off,rfl,hfb,c0,c1,c2,c3⟩:=(HF.out.below HB.out.base).cell k f hf;obtain⟨sf,hsf⟩:∃sf,sz f=sf:=⟨_,rfl⟩;have hn':=HS.out f (List.mem_of_getElem? hf);have HKC:=Hi (Qfd m fs k f hf);have HKB:=Hi (Nat.le_trans (wt_le m fs k f hf) hW);rw[hsf] at hn' HKC HKB;have hz:f.ax.size≤sf∧f.ay.size≤sf∧f.wx.size≤sf∧f.wy.size≤sf:=by unfold sz at hsf;omega
   clear hsf;have HFK:=Hi hf;have HC0:=Hi c0;have HC1:=Hi c1;have HC2:=Hi c2;have HC3:=Hi c3;go_wp2_with fail;have lr1:wr.heap.size≠fb:=by omega
   have lr2:wr.heap.size+1≠fb:=by omega
   have HR:Hid (ZBag wr wr [] _):=Hi ⟨HB.out.rebase,fun n hn=>by cases hn⟩;go_cut [7,8] (fun s7 s8 wx=>CutR wr f [⟨x1,x2,x3,x,wt m (fs.take k)+1⟩,⟨y1,y2,y3,y,wt m (fs.take k)+1⟩,⟨t1,t2,t3,t,wt m (fs.take k)+1⟩,⟨a1,a2,a3,ox,4*m+1⟩,⟨a4,a5,a6,oy,4*m+1⟩] sf s7 s8 wx)
   case first=>
    go_region_held3 (fun w'=>w'.cell? ⟨fb,off+k*4,none⟩=some (.string f.ax)∧w'.cell? ⟨fb,off+k*4+1,none⟩=some (.string f.ay)∧w'.cell? ⟨fb,off+k*4+2,none⟩=some (.string f.wx)∧w'.cell? ⟨fb,off+k*4+3,none⟩=some (.string f.wy)) ((first|(simp [*];done)|go_keep)) (first
     |
      (go_at_call_of 33 (f.ax)
       apply Calls.mono;apply ZBag.vof (w0:=wr) (n:=sf);(focus(repeat(first|exact HR.out|apply ZBag.alloc|apply ZBag.drew)));omega;omega;omega;rintro e wp ⟨px,py,hp,hq,z1,z2,z3,z4,z5,z6,rfl,hb,hsz⟩;have HPX:=Hi hp;have HPY:=Hi hq;(try simp only[Qac,World.size_alloc] at hsz);clear HR hp hq;have HR:=Hi hb;clear hb;(try
         have zz:=(HR.out.zs _ (List.Mem.head _)).2;(try simp only[World.size_alloc,Qac] at zz);have qac0:=zz.cell 0;have qaf0:=zz.free 0;have qad0:=fun o=>(zz.alloc o).cell 0
         have qag0:=fun o=>(zz.alloc o).free 0
         have qac1:=zz.cell 1;have qaf1:=zz.free 1;have qad1:=fun o=>(zz.alloc o).cell 1
         have qag1:=fun o=>(zz.alloc o).free 1
         have qac2:=zz.cell 2;have qaf2:=zz.free 2;have qad2:=fun o=>(zz.alloc o).cell 2
         have qag2:=fun o=>(zz.alloc o).free 2
         have qac3:=zz.cell 3;have qaf3:=zz.free 3;have qad3:=fun o=>(zz.alloc o).cell 3
         have qag3:=fun o=>(zz.alloc o).free 3
         have qac4:=zz.cell 4;have qaf4:=zz.free 4;have qad4:=fun o=>(zz.alloc o).cell 4
         have qag4:=fun o=>(zz.alloc o).free 4
         have qac5:=zz.cell 5;have qaf5:=zz.free 5;have qad5:=fun o=>(zz.alloc o).cell 5
         have qag5:=fun o=>(zz.alloc o).free 5
         simp at qac0 qac1 qac2 qac3 qac4 qac5;simp only[List.getElem?_toArray,List.getElem?_cons_zero,List.getElem?_cons_succ] at qad0 qad1 qad2 qad3 qad4 qad5
         clear zz)
       (try
         have zz:=(HR.out.zs _ (List.Mem.tail _ (List.Mem.head _))).2;(try simp only[World.size_alloc,Qac] at zz);have qbc0:=zz.cell 0;have qbf0:=zz.free 0;have qbd0:=fun o=>(zz.alloc o).cell 0
         have qbg0:=fun o=>(zz.alloc o).free 0
         have qbc1:=zz.cell 1;have qbf1:=zz.free 1;have qbd1:=fun o=>(zz.alloc o).cell 1
         have qbg1:=fun o=>(zz.alloc o).free 1
         have qbc2:=zz.cell 2;have qbf2:=zz.free 2;have qbd2:=fun o=>(zz.alloc o).cell 2
         have qbg2:=fun o=>(zz.alloc o).free 2
         have qbc3:=zz.cell 3;have qbf3:=zz.free 3;have qbd3:=fun o=>(zz.alloc o).cell 3
         have qbg3:=fun o=>(zz.alloc o).free 3
         have qbc4:=zz.cell 4;have qbf4:=zz.free 4;have qbd4:=fun o=>(zz.alloc o).cell 4
         have qbg4:=fun o=>(zz.alloc o).free 4
         have qbc5:=zz.cell 5;have qbf5:=zz.free 5;have qbd5:=fun o=>(zz.alloc o).cell 5
         have qbg5:=fun o=>(zz.alloc o).free 5
         simp at qbc0 qbc1 qbc2 qbc3 qbc4 qbc5;simp only[List.getElem?_toArray,List.getElem?_cons_zero,List.getElem?_cons_succ] at qbd0 qbd1 qbd2 qbd3 qbd4 qbd5
         clear zz)
       (try have ne1:wp.heap.size≠wr.heap.size:=by omega);(try have ne2:wr.heap.size≠wp.heap.size:=by omega);(try have ne3:wp.heap.size≠wp.heap.size:=by omega);(try have ne4:wp.heap.size≠wp.heap.size:=by omega);have lf0:fb<wp.heap.size:=Nat.lt_of_lt_of_le hfb HR.out.bag.base.size;have lf1:wp.heap.size≠fb:=by omega
       have lf2:wp.heap.size+1≠fb:=by omega
       have d0:=(HR.out.bag.base.cell (p:=⟨fb,off+k*4,none⟩) hfb).trans HC0.out;have d1:=(HR.out.bag.base.cell (p:=⟨fb,off+k*4+1,none⟩) hfb).trans HC1.out;have d2:=(HR.out.bag.base.cell (p:=⟨fb,off+k*4+2,none⟩) hfb).trans HC2.out;have d3:=(HR.out.bag.base.cell (p:=⟨fb,off+k*4+3,none⟩) hfb).trans HC3.out;have o9:=(HR.out.bag.ts _ (List.Mem.head _)).1.one;have o8:=(HR.out.bag.ts _ (List.Mem.tail _ (List.Mem.head _))).1.one;have st1:=Qaa Tryz.prog o9.1;have st2:=Qaa Tryz.prog o9.2.1;have st3:=Qaa Tryz.prog o9.2.2;have st4:=Qaa Tryz.prog o8.1;have st5:=Qaa Tryz.prog o8.2.1;have st6:=Qaa Tryz.prog o8.2.2
       clear o9 o8)
     |
      (go_at_call_of 33 (f.wx)
       apply Calls.mono;apply ZBag.vof (w0:=wr) (n:=sf);(focus(repeat(first|exact HR.out|apply ZBag.alloc|apply ZBag.drew)));omega;omega;omega;rintro e wq ⟨qx,qy,hp,hq,v1,v2,v3,v4,v5,v6,rfl,hb,hsz⟩;have HQX:=Hi hp;have HQY:=Hi hq;(try simp only[Qac,World.size_alloc] at hsz);clear HR hp hq;have HR:=Hi hb;clear hb;(try
         have zz:=(HR.out.zs _ (List.Mem.head _)).2;(try simp only[World.size_alloc,Qac] at zz);have qac0:=zz.cell 0;have qaf0:=zz.free 0;have qad0:=fun o=>(zz.alloc o).cell 0
         have qag0:=fun o=>(zz.alloc o).free 0
         have qac1:=zz.cell 1;have qaf1:=zz.free 1;have qad1:=fun o=>(zz.alloc o).cell 1
         have qag1:=fun o=>(zz.alloc o).free 1
         have qac2:=zz.cell 2;have qaf2:=zz.free 2;have qad2:=fun o=>(zz.alloc o).cell 2
         have qag2:=fun o=>(zz.alloc o).free 2
         have qac3:=zz.cell 3;have qaf3:=zz.free 3;have qad3:=fun o=>(zz.alloc o).cell 3
         have qag3:=fun o=>(zz.alloc o).free 3
         have qac4:=zz.cell 4;have qaf4:=zz.free 4;have qad4:=fun o=>(zz.alloc o).cell 4
         have qag4:=fun o=>(zz.alloc o).free 4
         have qac5:=zz.cell 5;have qaf5:=zz.free 5;have qad5:=fun o=>(zz.alloc o).cell 5
         have qag5:=fun o=>(zz.alloc o).free 5
         simp at qac0 qac1 qac2 qac3 qac4 qac5;simp only[List.getElem?_toArray,List.getElem?_cons_zero,List.getElem?_cons_succ] at qad0 qad1 qad2 qad3 qad4 qad5
         clear zz)
       (try
         have zz:=(HR.out.zs _ (List.Mem.tail _ (List.Mem.head _))).2;(try simp only[World.size_alloc,Qac] at zz);have qbc0:=zz.cell 0;have qbf0:=zz.free 0;have qbd0:=fun o=>(zz.alloc o).cell 0
         have qbg0:=fun o=>(zz.alloc o).free 0
         have qbc1:=zz.cell 1;have qbf1:=zz.free 1;have qbd1:=fun o=>(zz.alloc o).cell 1
         have qbg1:=fun o=>(zz.alloc o).free 1
         have qbc2:=zz.cell 2;have qbf2:=zz.free 2;have qbd2:=fun o=>(zz.alloc o).cell 2
         have qbg2:=fun o=>(zz.alloc o).free 2
         have qbc3:=zz.cell 3;have qbf3:=zz.free 3;have qbd3:=fun o=>(zz.alloc o).cell 3
         have qbg3:=fun o=>(zz.alloc o).free 3
         have qbc4:=zz.cell 4;have qbf4:=zz.free 4;have qbd4:=fun o=>(zz.alloc o).cell 4
         have qbg4:=fun o=>(zz.alloc o).free 4
         have qbc5:=zz.cell 5;have qbf5:=zz.free 5;have qbd5:=fun o=>(zz.alloc o).cell 5
         have qbg5:=fun o=>(zz.alloc o).free 5
         simp at qbc0 qbc1 qbc2 qbc3 qbc4 qbc5;simp only[List.getElem?_toArray,List.getElem?_cons_zero,List.getElem?_cons_succ] at qbd0 qbd1 qbd2 qbd3 qbd4 qbd5
         clear zz)
       (try have ne1:wq.heap.size≠wr.heap.size:=by omega);(try have ne2:wr.heap.size≠wq.heap.size:=by omega);(try have ne3:wq.heap.size≠wp.heap.size:=by omega);(try have ne4:wp.heap.size≠wq.heap.size:=by omega);have lf0:fb<wq.heap.size:=Nat.lt_of_lt_of_le hfb HR.out.bag.base.size;have lf1:wq.heap.size≠fb:=by omega
       have lf2:wq.heap.size+1≠fb:=by omega
       have d0:=(HR.out.bag.base.cell (p:=⟨fb,off+k*4,none⟩) hfb).trans HC0.out;have d1:=(HR.out.bag.base.cell (p:=⟨fb,off+k*4+1,none⟩) hfb).trans HC1.out;have d2:=(HR.out.bag.base.cell (p:=⟨fb,off+k*4+2,none⟩) hfb).trans HC2.out;have d3:=(HR.out.bag.base.cell (p:=⟨fb,off+k*4+3,none⟩) hfb).trans HC3.out;have o9:=(HR.out.bag.ts _ (List.Mem.head _)).1.one;have o8:=(HR.out.bag.ts _ (List.Mem.tail _ (List.Mem.head _))).1.one;have st1:=Qaa Tryz.prog o9.1;have st2:=Qaa Tryz.prog o9.2.1;have st3:=Qaa Tryz.prog o9.2.2;have st4:=Qaa Tryz.prog o8.1;have st5:=Qaa Tryz.prog o8.2.1;have st6:=Qaa Tryz.prog o8.2.2
       clear o9 o8)
     )
    all_goals
     go_wp2_with fail;go_meet
     case rel=>
      refine CutR.of (f:=f) (px:=px) (py:=py) (qx:=qx) (qy:=qy) (z1:=z1) (z2:=z2) (z3:=z3) (z4:=z4) (z5:=z5) (z6:=z6) (v1:=v1) (v2:=v2) (v3:=v3) (v4:=v4) (v5:=v5) (v6:=v6) ?_ ?_ ?_ ?_ ?_;(focus(exact HPX.out));(focus(exact HPY.out));(focus(exact HQX.out));(focus(exact HQY.out))
      first
       |with_reducible exact ZBag.cutNew HR.out
       |with_reducible exact ZBag.cutNew' HR.out
       |(
        with_reducible apply ZBag.cutAll
        (focus(repeat(first|exact HR.out|apply ZBag.alloc|apply ZBag.drew)));(focus(simp only[List.mem_cons,List.not_mem_nil,or_false,Qac,World.size_alloc,true_or,or_true]));(focus(simp only[List.mem_cons,List.not_mem_nil,or_false,Qac,World.size_alloc,true_or,or_true]))
        (focus(first|omega|simp|(simp;omega))))
       |(
        with_reducible apply ZBag.cutMix
        (focus(repeat(first|exact HR.out|apply ZBag.alloc|apply ZBag.drew)));(focus(simp only[List.mem_cons,List.not_mem_nil,or_false,Qac,World.size_alloc,true_or,or_true]))
        skip)
   case rest=>
    obtain⟨g7,g8,px,py,qx,qy,z1,z2,z3,z4,z5,z6,v1,v2,v3,v4,v5,v6,rfl,rfl,hq4,hbag,hs7,hs8,hg7,hg8⟩:=hcut;have HQ4:=Hi hq4;have hKB:=HKB.out;obtain⟨KC,hKC⟩:∃KC,wt m (fs.take k)=KC:=⟨_,rfl⟩;rw[hKC] at hbag HKC hKB;have HBW:=Hi (HB.out.base.trans (hbag.base.mono HB.out.base.size));have HR:=Hi hbag.rebase;have HTc:=Hi (HST.out.below hbag.base HST.out.lt);have HAc:=Hi (HSA.out.below hbag.base HSA.out.lt);have HRc:=Hi (HSR.out.below hbag.base HSR.out.lt);have HS7c:=Hi hs7;have HS8c:=Hi hs8;have hTwr:=HST.out.lt;have n7:g7≠w.heap.size+1+1:=by omega
    have n8:g8≠w.heap.size+1+1:=by omega
    have n7':w.heap.size+1+1≠g7:=by omega
    have n8':w.heap.size+1+1≠g8:=by omega
    have nA':w.heap.size+1+1≠w.heap.size:=by omega
    clear hq4 hKC c0 c1 c2 c3 HB HSA HSR HST hs7 hs8 hbag HC0 HC1 HC2 HC3;have hTc:=HTc.out;have hTc_0:_=some (x1):=hTc.cell 0;have hTc_1:_=some (x2):=hTc.cell 1;have hTc_2:_=some (x3):=hTc.cell 2;have hTc_3:_=some (y1):=hTc.cell 3;have hTc_4:_=some (y2):=hTc.cell 4;have hTc_5:_=some (y3):=hTc.cell 5;have hTc_6:_=some (t1):=hTc.cell 6;have hTc_7:_=some (t2):=hTc.cell 7;have hTc_8:_=some (t3):=hTc.cell 8;clear hTc;have h8c:=HS8c.out;have h8c_0:_=some (v1):=h8c.cell 0;have h8c_1:_=some (v2):=h8c.cell 1;have h8c_2:_=some (v3):=h8c.cell 2;have h8c_3:_=some (v4):=h8c.cell 3;have h8c_4:_=some (v5):=h8c.cell 4;have h8c_5:_=some (v6):=h8c.cell 5;clear h8c;go_wp2_with fail;apply Calls.mono;apply FBag.vplus (w0:=wc) HR.out;(focus(repeat(first|exact List.Mem.head _|apply List.Mem.tail)));(focus(repeat(first|exact List.Mem.head _|apply List.Mem.tail)))
    (focus(repeat(first|exact List.Mem.head _|apply List.Mem.tail)));(focus(repeat(first|exact List.Mem.head _|apply List.Mem.tail)));omega;omega;rintro e wd ⟨p1,p2,p3,p4,p5,p6,rfl,hb⟩;have HRd:=Hi hb;clear HR hb;have HTd:=Hi (HTc.out.below HRd.out.base HTc.out.lt);have o9:=(HRd.out.ts _ (List.Mem.head _)).1.one;have o8:=(HRd.out.ts _ (List.Mem.tail _ (List.Mem.head _))).1.one;have st1:=Qaa Tryz.prog o9.1;have st2:=Qaa Tryz.prog o9.2.1;have st3:=Qaa Tryz.prog o9.2.2;have st4:=Qaa Tryz.prog o8.1;have st5:=Qaa Tryz.prog o8.2.1;have st6:=Qaa Tryz.prog o8.2.2;clear o9 o8;have hTd:=HTd.out;have hTd_0:_=some (x1):=hTd.cell 0;have hTd_1:_=some (x2):=hTd.cell 1;have hTd_2:_=some (x3):=hTd.cell 2;have hTd_3:_=some (y1):=hTd.cell 3;have hTd_4:_=some (y2):=hTd.cell 4;have hTd_5:_=some (y3):=hTd.cell 5;have hTd_6:_=some (t1):=hTd.cell 6;have hTd_7:_=some (t2):=hTd.cell 7
    have hTd_8:_=some (t3):=hTd.cell 8;have hTdf_0:=hTd.free 0;have hTdf_1:=hTd.free 1;have hTdf_2:=hTd.free 2;have hTdf_3:=hTd.free 3;have hTdf_4:=hTd.free 4;have hTdf_5:=hTd.free 5;clear hTd;have HNO:=Hi (no9 (HRd.out.get (x:=x1) (y:=x2) (z:=x3) (q:=x) (k:=KC+1) (by repeat(first|exact List.Mem.head _|apply List.Mem.tail))).1 (HRd.out.get (x:=y1) (y:=y2) (z:=y3) (q:=y) (k:=KC+1) (by repeat(first|exact List.Mem.head _|apply List.Mem.tail))).1 (HRd.out.get (x:=t1) (y:=t2) (z:=t3) (q:=t) (k:=KC+1) (by repeat(first|exact List.Mem.head _|apply List.Mem.tail))).1);obtain⟨wE,hwE⟩:∃wE,((((((wd.setCell ⟨w.heap.size+1+1,0,none⟩ p1).setCell ⟨w.heap.size+1+1,1,none⟩ p2).setCell ⟨w.heap.size+1+1,2,none⟩ p3).setCell ⟨w.heap.size+1+1,3,none⟩ p4).setCell ⟨w.heap.size+1+1,4,none⟩ p5).setCell ⟨w.heap.size+1+1,5,none⟩ p6)=wE:=⟨_,rfl⟩
    have ho:Only (w.heap.size+1+1) wd wE:=by rw[←hwE];exact(((((((Only.refl _ wd).setCell 0 p1).setCell 1 p2).setCell 2 p3).setCell 3 p4).setCell 4 p5).setCell 5 p6)
    have hTE:SB wE (w.heap.size+1+1) 81 #[p1,p2,p3,p4,p5,p6,t1,t2,t3]:=by rw[←hwE];exact((((((HTd.out.set 0 p1).set 1 p2).set 2 p3).set 3 p4).set 4 p5).set 5 p6)
    have HRW:=Hi ((HRd.out.from HBW.out HGL.out (fun t ht=>⟨t.k,ht,Nat.le_refl _⟩)).only ho HTd.out HNO.out (by omega));have HR:=Hi HRW.out.rebase;have HT7:=Hi hTE;have HS7:=Hi ((HS7c.out.below HRd.out.base HS7c.out.lt).only ho n7);have HS8:=Hi ((HS8c.out.below HRd.out.base HS8c.out.lt).only ho n8);have HSA7:=Hi ((HAc.out.below HRd.out.base HAc.out.lt).only ho (by omega));have HSR7:=Hi ((HRc.out.below HRd.out.base HRc.out.lt).only ho (by omega));have HWE:=Hi hwE;clear hwE ho hTE HNO HTc HAc HRc HS7c HS8c HTd HRd;go_wp2_with fail;rw[show ((((((wd.setCell ⟨w.heap.size+1+1,0,none⟩ p1).setCell ⟨w.heap.size+1+1,1,none⟩ p2).setCell ⟨w.heap.size+1+1,2,none⟩ p3).setCell ⟨w.heap.size+1+1,3,none⟩ p4).setCell ⟨w.heap.size+1+1,4,none⟩ p5).setCell ⟨w.heap.size+1+1,5,none⟩ p6)=wE from HWE.out]
    clear hTc_0 hTc_1 hTc_2 hTc_3 hTc_4 hTc_5 hTc_6 hTc_7 hTc_8 h8c_0 h8c_1 h8c_2 h8c_3 h8c_4 h8c_5 hTd_0 hTd_1 hTd_2 hTd_3 hTd_4 hTd_5 hTd_6 hTd_7 hTd_8 hTdf_0 hTdf_1 hTdf_2 hTdf_3 hTdf_4 hTdf_5 st1 st2 st3 st4 st5 st6;have h7:=HS7.out.below HR.out.base HS7.out.lt;have h7_0:_=some (z1):=h7.cell 0;have h7_1:_=some (z2):=h7.cell 1;have h7_2:_=some (z3):=h7.cell 2;have h7_3:_=some (z4):=h7.cell 3;have h7_4:_=some (z5):=h7.cell 4;have h7_5:_=some (z6):=h7.cell 5;clear h7;have h8:=HS8.out.below HR.out.base HS8.out.lt;have h8_0:_=some (v1):=h8.cell 0;have h8_1:_=some (v2):=h8.cell 1;have h8_2:_=some (v3):=h8.cell 2;have h8_3:_=some (v4):=h8.cell 3;have h8_4:_=some (v5):=h8.cell 4;have h8_5:_=some (v6):=h8.cell 5;clear h8;have hA:=HSA7.out.below HR.out.base HSA7.out.lt;have hA_0:_=some (a1):=hA.cell 0;have hA_1:_=some (a2):=hA.cell 1;have hA_2:_=some (a3):=hA.cell 2
    have hA_3:_=some (a4):=hA.cell 3;have hA_4:_=some (a5):=hA.cell 4;have hA_5:_=some (a6):=hA.cell 5;clear hA;have hT:=HT7.out.below HR.out.base HT7.out.lt;have hT_6:_=some (t1):=hT.cell 6;have hT_7:_=some (t2):=hT.cell 7;have hT_8:_=some (t3):=hT.cell 8;have hTf_6:=hT.free 6;have hTf_7:=hT.free 7;have hTf_8:=hT.free 8;clear hT
    refine AnyBut.begin (S:=(fun w':World=>w'.cell? ⟨g7,0,none⟩=some z1∧w'.cell? ⟨g7,1,none⟩=some z2∧w'.cell? ⟨g7,2,none⟩=some z3∧w'.cell? ⟨g7,3,none⟩=some z4∧w'.cell? ⟨g7,4,none⟩=some z5∧w'.cell? ⟨g7,5,none⟩=some z6∧w'.cell? ⟨g8,0,none⟩=some v1∧w'.cell? ⟨g8,1,none⟩=some v2∧w'.cell? ⟨g8,2,none⟩=some v3∧w'.cell? ⟨g8,3,none⟩=some v4∧w'.cell? ⟨g8,4,none⟩=some v5∧w'.cell? ⟨g8,5,none⟩=some v6∧w'.cell? ⟨w.heap.size,0,none⟩=some a1∧w'.cell? ⟨w.heap.size,1,none⟩=some a2∧w'.cell? ⟨w.heap.size,2,none⟩=some a3∧w'.cell? ⟨w.heap.size,3,none⟩=some a4∧w'.cell? ⟨w.heap.size,4,none⟩=some a5∧w'.cell? ⟨w.heap.size,5,none⟩=some a6∧w'.cell? ⟨w.heap.size+1+1,6,none⟩=some t1∧w'.cell? ⟨w.heap.size+1+1,7,none⟩=some t2∧w'.cell? ⟨w.heap.size+1+1,8,none⟩=some t3)) (k:=9) (by kernel_rfl) ?_
    have hHeld:(fun w':World=>w'.cell? ⟨g7,0,none⟩=some z1∧w'.cell? ⟨g7,1,none⟩=some z2∧w'.cell? ⟨g7,2,none⟩=some z3∧w'.cell? ⟨g7,3,none⟩=some z4∧w'.cell? ⟨g7,4,none⟩=some z5∧w'.cell? ⟨g7,5,none⟩=some z6∧w'.cell? ⟨g8,0,none⟩=some v1∧w'.cell? ⟨g8,1,none⟩=some v2∧w'.cell? ⟨g8,2,none⟩=some v3∧w'.cell? ⟨g8,3,none⟩=some v4∧w'.cell? ⟨g8,4,none⟩=some v5∧w'.cell? ⟨g8,5,none⟩=some v6∧w'.cell? ⟨w.heap.size,0,none⟩=some a1∧w'.cell? ⟨w.heap.size,1,none⟩=some a2∧w'.cell? ⟨w.heap.size,2,none⟩=some a3∧w'.cell? ⟨w.heap.size,3,none⟩=some a4∧w'.cell? ⟨w.heap.size,4,none⟩=some a5∧w'.cell? ⟨w.heap.size,5,none⟩=some a6∧w'.cell? ⟨w.heap.size+1+1,6,none⟩=some t1∧w'.cell? ⟨w.heap.size+1+1,7,none⟩=some t2∧w'.cell? ⟨w.heap.size+1+1,8,none⟩=some t3) wE.drew:=⟨h7_0,h7_1,h7_2,h7_3,h7_4,h7_5,h8_0,h8_1,h8_2,h8_3,h8_4,h8_5,hA_0,hA_1,hA_2,hA_3,hA_4,hA_5,hT_6,hT_7,hT_8⟩
    refine AnyBut.take (i:=0) (v:=?_) rfl (by kernel_rfl) (by kernel_rfl) (by kernel_rfl) (by kernel_rfl) (fun _ _ _ h=>h) (Or.inl ⟨by rfl,?_⟩) hHeld ?_
    rotate_left 1
    (focus(intro w hSw;(try dsimp only at hSw);go_simp;(try with_reducible rfl)));(try simp only[Act.put,List.setIfInBounds_toArray,List.set_cons_zero,List.set_cons_succ]);refine AnyBut.take (i:=1) (v:=?_) rfl (by kernel_rfl) (by kernel_rfl) (by kernel_rfl) (by kernel_rfl) (fun _ _ _ h=>h) (Or.inl ⟨by rfl,?_⟩) hHeld ?_
    rotate_left 1
    (focus(intro w hSw;(try dsimp only at hSw);go_simp;(try with_reducible rfl)));(try simp only[Act.put,List.setIfInBounds_toArray,List.set_cons_zero,List.set_cons_succ]);refine AnyBut.take (i:=2) (v:=?_) rfl (by kernel_rfl) (by kernel_rfl) (by kernel_rfl) (by kernel_rfl) (fun _ _ _ h=>h) (Or.inl ⟨by rfl,?_⟩) hHeld ?_
    rotate_left 1
    (focus(intro w hSw;(try dsimp only at hSw);go_simp;(try with_reducible rfl)));(try simp only[Act.put,List.setIfInBounds_toArray,List.set_cons_zero,List.set_cons_succ]);refine AnyBut.take (i:=3) (v:=?_) rfl (by kernel_rfl) (by kernel_rfl) (by kernel_rfl) (by kernel_rfl) (fun _ _ _ h=>h) (Or.inl ⟨by rfl,?_⟩) hHeld ?_
    rotate_left 1
    (focus(intro w hSw;(try dsimp only at hSw);go_simp;(try with_reducible rfl)));(try simp only[Act.put,List.setIfInBounds_toArray,List.set_cons_zero,List.set_cons_succ]);refine AnyBut.take (i:=5) (v:=?_) rfl (by kernel_rfl) (by kernel_rfl) (by kernel_rfl) (by kernel_rfl) (fun _ _ _ h=>h) (Or.inl ⟨by rfl,?_⟩) hHeld ?_
    rotate_left 1
    (focus(intro w hSw;(try dsimp only at hSw);go_simp;(try with_reducible rfl)));(try simp only[Act.put,List.setIfInBounds_toArray,List.set_cons_zero,List.set_cons_succ]);clear hHeld;have HR':=Hi HR.out.drew;clear HR;have HR:=HR';clear HR';refine AnyBut.one (i:=4) (by kernel_rfl) rfl (fun K hK=>?_);go_simp;apply Calls.mono;apply FBag.vminus (w0:=wE) HR.out;(focus(repeat(first|exact List.Mem.head _|apply List.Mem.tail)));(focus(repeat(first|exact List.Mem.head _|apply List.Mem.tail)));(focus(repeat(first|exact List.Mem.head _|apply List.Mem.tail)));(focus(repeat(first|exact List.Mem.head _|apply List.Mem.tail)));omega;omega;rintro e wn ⟨m1,m2,m3,m4,m5,m6,rfl,hb⟩;clear HR h7_0 h7_1 h7_2 h7_3 h7_4 h7_5 h8_0 h8_1 h8_2 h8_3 h8_4 h8_5 hA_0 hA_1 hA_2 hA_3 hA_4 hA_5 hT_6 hT_7 hT_8 hTf_6 hTf_7 hTf_8;have HR:=Hi hb;clear hb;have h7:=HS7.out.below HR.out.base HS7.out.lt
    have h7_0:_=some (z1):=h7.cell 0;have h7_1:_=some (z2):=h7.cell 1;have h7_2:_=some (z3):=h7.cell 2;have h7_3:_=some (z4):=h7.cell 3;have h7_4:_=some (z5):=h7.cell 4;have h7_5:_=some (z6):=h7.cell 5;clear h7;have h8:=HS8.out.below HR.out.base HS8.out.lt;have h8_0:_=some (v1):=h8.cell 0;have h8_1:_=some (v2):=h8.cell 1;have h8_2:_=some (v3):=h8.cell 2;have h8_3:_=some (v4):=h8.cell 3;have h8_4:_=some (v5):=h8.cell 4;have h8_5:_=some (v6):=h8.cell 5;clear h8;have hA:=HSA7.out.below HR.out.base HSA7.out.lt;have hA_0:_=some (a1):=hA.cell 0;have hA_1:_=some (a2):=hA.cell 1;have hA_2:_=some (a3):=hA.cell 2;have hA_3:_=some (a4):=hA.cell 3;have hA_4:_=some (a5):=hA.cell 4;have hA_5:_=some (a6):=hA.cell 5;clear hA;have hT:=HT7.out.below HR.out.base HT7.out.lt;have hT_6:_=some (t1):=hT.cell 6;have hT_7:_=some (t2):=hT.cell 7;have hT_8:_=some (t3):=hT.cell 8;have hTf_6:=hT.free 6
    have hTf_7:=hT.free 7;have hTf_8:=hT.free 8;clear hT;refine hK.out _ _ (fun _=>⟨h7_0,h7_1,h7_2,h7_3,h7_4,h7_5,h8_0,h8_1,h8_2,h8_3,h8_4,h8_5,hA_0,hA_1,hA_2,hA_3,hA_4,hA_5,hT_6,hT_7,hT_8⟩) ?_;clear hK K;(try simp only[Act.put,List.setIfInBounds_toArray,List.set_cons_zero,List.set_cons_succ]);refine AnyBut.one (i:=6) (by kernel_rfl) rfl (fun K hK=>?_);go_simp;apply Calls.mono;apply FBag.vcross (w0:=wE) HR.out;(focus(repeat(first|exact List.Mem.head _|apply List.Mem.tail)));(focus(repeat(first|exact List.Mem.head _|apply List.Mem.tail)));(focus(repeat(first|exact List.Mem.head _|apply List.Mem.tail)));(focus(repeat(first|exact List.Mem.head _|apply List.Mem.tail)));omega;rintro e wn ⟨c1,c2,c3,rfl,hb⟩;clear HR h7_0 h7_1 h7_2 h7_3 h7_4 h7_5 h8_0 h8_1 h8_2 h8_3 h8_4 h8_5 hA_0 hA_1 hA_2 hA_3 hA_4 hA_5 hT_6 hT_7 hT_8 hTf_6 hTf_7 hTf_8;have HR:=Hi hb;clear hb
    have h7:=HS7.out.below HR.out.base HS7.out.lt;have h7_0:_=some (z1):=h7.cell 0;have h7_1:_=some (z2):=h7.cell 1;have h7_2:_=some (z3):=h7.cell 2;have h7_3:_=some (z4):=h7.cell 3;have h7_4:_=some (z5):=h7.cell 4;have h7_5:_=some (z6):=h7.cell 5;clear h7;have h8:=HS8.out.below HR.out.base HS8.out.lt;have h8_0:_=some (v1):=h8.cell 0;have h8_1:_=some (v2):=h8.cell 1;have h8_2:_=some (v3):=h8.cell 2;have h8_3:_=some (v4):=h8.cell 3;have h8_4:_=some (v5):=h8.cell 4;have h8_5:_=some (v6):=h8.cell 5;clear h8;have hA:=HSA7.out.below HR.out.base HSA7.out.lt;have hA_0:_=some (a1):=hA.cell 0;have hA_1:_=some (a2):=hA.cell 1;have hA_2:_=some (a3):=hA.cell 2;have hA_3:_=some (a4):=hA.cell 3;have hA_4:_=some (a5):=hA.cell 4;have hA_5:_=some (a6):=hA.cell 5;clear hA;have hT:=HT7.out.below HR.out.base HT7.out.lt;have hT_6:_=some (t1):=hT.cell 6;have hT_7:_=some (t2):=hT.cell 7
    have hT_8:_=some (t3):=hT.cell 8;have hTf_6:=hT.free 6;have hTf_7:=hT.free 7;have hTf_8:=hT.free 8;clear hT;refine hK.out _ _ (fun _=>⟨h7_0,h7_1,h7_2,h7_3,h7_4,h7_5,h8_0,h8_1,h8_2,h8_3,h8_4,h8_5,hA_0,hA_1,hA_2,hA_3,hA_4,hA_5,hT_6,hT_7,hT_8⟩) ?_;clear hK K;(try simp only[Act.put,List.setIfInBounds_toArray,List.set_cons_zero,List.set_cons_succ]);refine AnyBut.one (i:=7) (by kernel_rfl) rfl (fun K hK=>?_);go_simp;apply Calls.mono;apply FBag.plus (w0:=wE) HR.out;(focus(repeat(first|exact List.Mem.head _|apply List.Mem.tail)));(focus(repeat(first|exact List.Mem.head _|apply List.Mem.tail)));omega;rintro e wn ⟨r1,r2,r3,rfl,hb⟩;clear HR h7_0 h7_1 h7_2 h7_3 h7_4 h7_5 h8_0 h8_1 h8_2 h8_3 h8_4 h8_5 hA_0 hA_1 hA_2 hA_3 hA_4 hA_5 hT_6 hT_7 hT_8 hTf_6 hTf_7 hTf_8;have HR:=Hi hb;clear hb;have h7:=HS7.out.below HR.out.base HS7.out.lt;have h7_0:_=some (z1):=h7.cell 0;have h7_1:_=some (z2):=h7.cell 1
    have h7_2:_=some (z3):=h7.cell 2;have h7_3:_=some (z4):=h7.cell 3;have h7_4:_=some (z5):=h7.cell 4;have h7_5:_=some (z6):=h7.cell 5;clear h7;have h8:=HS8.out.below HR.out.base HS8.out.lt;have h8_0:_=some (v1):=h8.cell 0;have h8_1:_=some (v2):=h8.cell 1;have h8_2:_=some (v3):=h8.cell 2;have h8_3:_=some (v4):=h8.cell 3;have h8_4:_=some (v5):=h8.cell 4;have h8_5:_=some (v6):=h8.cell 5;clear h8;have hA:=HSA7.out.below HR.out.base HSA7.out.lt;have hA_0:_=some (a1):=hA.cell 0;have hA_1:_=some (a2):=hA.cell 1;have hA_2:_=some (a3):=hA.cell 2;have hA_3:_=some (a4):=hA.cell 3;have hA_4:_=some (a5):=hA.cell 4;have hA_5:_=some (a6):=hA.cell 5;clear hA;have hT:=HT7.out.below HR.out.base HT7.out.lt;have hT_6:_=some (t1):=hT.cell 6;have hT_7:_=some (t2):=hT.cell 7;have hT_8:_=some (t3):=hT.cell 8;have hTf_6:=hT.free 6;have hTf_7:=hT.free 7;have hTf_8:=hT.free 8;clear hT
    have o9:=(HR.out.ts _ (List.Mem.head _)).1.one;have stA:=Qaa Tryz.prog o9.1;have stB:=Qaa Tryz.prog o9.2.1;have stC:=Qaa Tryz.prog o9.2.2;clear o9;refine hK.out _ _ (fun _=>⟨h7_0,h7_1,h7_2,h7_3,h7_4,h7_5,h8_0,h8_1,h8_2,h8_3,h8_4,h8_5,hA_0,hA_1,hA_2,hA_3,hA_4,hA_5,hT_6,hT_7,hT_8⟩) ?_;clear hK K;(try simp only[Act.put,List.setIfInBounds_toArray,List.set_cons_zero,List.set_cons_succ])
    have hHeld:(fun w':World=>w'.cell? ⟨g7,0,none⟩=some z1∧w'.cell? ⟨g7,1,none⟩=some z2∧w'.cell? ⟨g7,2,none⟩=some z3∧w'.cell? ⟨g7,3,none⟩=some z4∧w'.cell? ⟨g7,4,none⟩=some z5∧w'.cell? ⟨g7,5,none⟩=some z6∧w'.cell? ⟨g8,0,none⟩=some v1∧w'.cell? ⟨g8,1,none⟩=some v2∧w'.cell? ⟨g8,2,none⟩=some v3∧w'.cell? ⟨g8,3,none⟩=some v4∧w'.cell? ⟨g8,4,none⟩=some v5∧w'.cell? ⟨g8,5,none⟩=some v6∧w'.cell? ⟨w.heap.size,0,none⟩=some a1∧w'.cell? ⟨w.heap.size,1,none⟩=some a2∧w'.cell? ⟨w.heap.size,2,none⟩=some a3∧w'.cell? ⟨w.heap.size,3,none⟩=some a4∧w'.cell? ⟨w.heap.size,4,none⟩=some a5∧w'.cell? ⟨w.heap.size,5,none⟩=some a6∧w'.cell? ⟨w.heap.size+1+1,6,none⟩=some t1∧w'.cell? ⟨w.heap.size+1+1,7,none⟩=some t2∧w'.cell? ⟨w.heap.size+1+1,8,none⟩=some t3) wn:=⟨h7_0,h7_1,h7_2,h7_3,h7_4,h7_5,h8_0,h8_1,h8_2,h8_3,h8_4,h8_5,hA_0,hA_1,hA_2,hA_3,hA_4,hA_5,hT_6,hT_7,hT_8⟩
    refine AnyBut.take (i:=8) (v:=?_) rfl (by kernel_rfl) (by kernel_rfl) (by kernel_rfl) (by kernel_rfl) (fun _ _ _ h=>h) (Or.inl ⟨by rfl,?_⟩) hHeld ?_
    rotate_left 1
    (focus(intro w hSw;(try dsimp only at hSw);go_simp;(try with_reducible rfl)));(try simp only[Act.put,List.setIfInBounds_toArray,List.set_cons_zero,List.set_cons_succ]);clear hHeld;refine AnyBut.one (i:=9) (by kernel_rfl) rfl (fun K hK=>?_);go_simp;refine hK.out _ _ (fun h=>absurd rfl h) ?_;clear hK K;(try simp only[Act.put,List.setIfInBounds_toArray,List.set_cons_zero,List.set_cons_succ]);refine AnyBut.done (by kernel_rfl) ?_ _
    all_goals
     go_wp2;have hT:=HT7.out.below HR.out.base HT7.out.lt;have ho:Only (w.heap.size+1+1) wn (((wn.setCell ⟨w.heap.size+1+1,6,none⟩ r1).setCell ⟨w.heap.size+1+1,7,none⟩ r2).setCell ⟨w.heap.size+1+1,8,none⟩ r3):=((((Only.refl _ wn).setCell 6 r1).setCell 7 r2).setCell 8 r3);have hno:=no9 (HR.out.get (x:=p1) (y:=p2) (z:=p3) (q:=x+qx) (k:=KC+1+(4*sf+1)+1) (by repeat(first|exact List.Mem.head _|apply List.Mem.tail))).1 (HR.out.get (x:=p4) (y:=p5) (z:=p6) (q:=y+qy) (k:=KC+1+(4*sf+1)+1) (by repeat(first|exact List.Mem.head _|apply List.Mem.tail))).1 (HR.out.get (x:=t1) (y:=t2) (z:=t3) (q:=t) (k:=KC+1) (by repeat(first|exact List.Mem.head _|apply List.Mem.tail))).1;have hfin:=(HR.out.from HRW.out.base HGL.out (fun t ht=>⟨t.k,ht,Nat.le_refl _⟩)).only ho hT hno (by omega);have HFIN:=Hi hfin;have HTF:=Hi (((hT.set 6 r1).set 7 r2).set 8 r3)
     have HAF:=Hi ((HSA7.out.below HR.out.base HSA7.out.lt).only ho (by omega));have HRF:=Hi ((HSR7.out.below HR.out.base HSR7.out.lt).only ho (by omega));clear hT ho hno hfin HR;go_roundw
     case rel=>
      refine⟨k+1,_,_,_,p1,p2,p3,p4,p5,p6,r1,r2,r3,by omega,by go_num,by rw[Qej fs k f HFK.out];exact Sums.snoc HSU.out HQ4.out,?_,HAF.out,HRF.out,HTF.out⟩;refine HFIN.out.from (Below.refl _ _) HGL.out ?_;have:=HKC.out;rw[this];intro t ht;simp only[List.mem_cons,List.not_mem_nil,or_false] at ht;rcases ht with rfl|rfl|rfl|rfl|rfl
      · exact⟨KC+1+(4*sf+1)+1,(by repeat(first|exact List.Mem.head _|apply List.Mem.tail)),by simp only[];omega⟩
      · exact⟨KC+1+(4*sf+1)+1,(by repeat(first|exact List.Mem.head _|apply List.Mem.tail)),by simp only[];omega⟩
      · exact⟨_,(by repeat(first|exact List.Mem.head _|apply List.Mem.tail)),by simp only[];omega⟩
      · exact⟨4*m+1,(by repeat(first|exact List.Mem.head _|apply List.Mem.tail)),Nat.le_refl _⟩
      · exact⟨4*m+1,(by repeat(first|exact List.Mem.head _|apply List.Mem.tail)),Nat.le_refl _⟩
     case measure=>simp[intOf];omega
  ·
   have hk':k=fs.length:=by omega
   subst hk';have hT:=HST.out;have hZ:=HSR.out;have no1:=(HB.out.ts _ (List.Mem.head _)).1.one;have no2:=(HB.out.ts _ (List.Mem.tail _ (List.Mem.head _))).1.one;have no3:=(HB.out.ts _ (List.Mem.tail _ (List.Mem.tail _ (List.Mem.head _)))).1.one;have s1:=Qaa Tryz.prog no1.1;have s2:=Qaa Tryz.prog no1.2.1;have s3:=Qaa Tryz.prog no1.2.2;have s4:=Qaa Tryz.prog no2.1;have s5:=Qaa Tryz.prog no2.2.1;have s6:=Qaa Tryz.prog no2.2.2;have s7:=Qaa Tryz.prog no3.1;have s8:=Qaa Tryz.prog no3.2.1;have s9:=Qaa Tryz.prog no3.2.2;have hT_0:_=some (x1):=hT.cell 0;have hT_1:_=some (x2):=hT.cell 1;have hT_2:_=some (x3):=hT.cell 2;have hT_3:_=some (y1):=hT.cell 3;have hT_4:_=some (y2):=hT.cell 4;have hT_5:_=some (y3):=hT.cell 5;have hT_6:_=some (t1):=hT.cell 6;have hT_7:_=some (t2):=hT.cell 7;have hT_8:_=some (t3):=hT.cell 8;have hZ_0:_=some (Value.bool false):=hZ.cell 0;have hZf_0:=hZ.free 0
   have hZ_1:_=some (Value.slice none 0 0):=hZ.cell 1;have hZf_1:=hZ.free 1;have hZ_2:_=some (Value.slice none 0 0):=hZ.cell 2;have hZf_2:=hZ.free 2;have hZ_3:_=some (Value.bool false):=hZ.cell 3;have hZf_3:=hZ.free 3;have hZ_4:_=some (Value.slice none 0 0):=hZ.cell 4;have hZf_4:=hZ.free 4;have hZ_5:_=some (Value.slice none 0 0):=hZ.cell 5;have hZf_5:=hZ.free 5;have hZ_6:_=some (Value.bool false):=hZ.cell 6;have hZf_6:=hZ.free 6;have hZ_7:_=some (Value.slice none 0 0):=hZ.cell 7;have hZf_7:=hZ.free 7;have hZ_8:_=some (Value.slice none 0 0):=hZ.cell 8;have hZf_8:=hZ.free 8;have nTZ:w.heap.size+1≠w.heap.size+1+1:=by omega
   clear hT hZ no1 no2 no3;go_wp2;have hs9:=HSR.out;refine bodyPost_ret (v:=.agg #[x1,x2,x3,y1,y2,y3,t1,t2,t3]) (results_cell_row rfl _ _ (w.heap.size+1) 81 #[x1,x2,x3,y1,y2,y3,t1,t2,t3] (0,0) _ rfl (((((((((hs9.set 0 _).set 1 _).set 2 _).set 3 _).set 4 _).set 5 _).set 6 _).set 7 _).set 8 _) Tryz.underlying81 rfl Tryz.totalInfo) rfl ?_;have ho:=(((((((((Only.refl (w.heap.size+1) wr).setCell 0 x1).setCell 1 x2).setCell 2 x3).setCell 3 y1).setCell 4 y2).setCell 5 y3).setCell 6 t1).setCell 7 t2).setCell 8 t3;refine⟨x,y,t,_,_,_,_,_,_,_,_,_,by have:=HSU.out;rw[List.take_length] at this;exact this,rfl,(HB.out.from (Below.refl _ _) HGL.out ?_).only ho hs9 Qjc (by omega)⟩;have hle:wt m (fs.take fs.length)+1≤wt m fs+1:=by rw[List.take_length];exact Nat.le_refl _
   intro u hu;simp only[List.mem_cons,List.not_mem_nil,or_false] at hu;rcases hu with rfl|rfl|rfl
   · exact⟨_,List.Mem.head _,hle⟩
   · exact⟨_,List.Mem.tail _ (List.Mem.head _),hle⟩
   · exact⟨_,List.Mem.tail _ (List.Mem.tail _ (List.Mem.head _)),hle⟩
end Go.Proofs.YtbbkamnfjejceaaGreatDoor
