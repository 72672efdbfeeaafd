/- SymbolKnown holds. No condition. -/
import Derived.Deep.RegionHeld3
import Derived.Test.YtamnpcdkcdfgaaaGreatDoorQs12
set_option maxHeartbeats 1000000
set_option maxRecDepth 100000
namespace Go.Proofs.YtamnpcdkcdfgaaaGreatDoor
section
open Go.RowKit
open Ma Me
theorem wX(f:Nat)(hf:f<W64)(x y c:Nat)(hx:x<W64)(_:y<W64)(hc:c<W64):(iO f x y c).1<W64∧(iO f x y c).2<W64:=by
 have h:=aA0 hx hf hc rfl rfl rfl rfl;refine⟨Nat.mod_lt _ (by decide),?_⟩;have:=h.2.2;rw[h.2.1]at this;exact this
theorem nZ(f:Nat)(hf:f<W64)(x y c:Nat)(hx:x<W64)(hy:y<W64)(hc:c<W64):(dU f x y c).1<W64∧(dU f x y c).2<W64:=by
 have h:=sP hx hy hf hc rfl rfl rfl rfl rfl rfl;refine⟨Nat.mod_lt _ (by decide),?_⟩;have h3:=h.2.2.1;rw[h.2.1]at h3;exact h3
theorem oC(f:Nat)(hf:f<W64)(x y c:Nat)(_:x<W64)(hy:y<W64)(hc:c<W64):(iR f x y c).1<W64∧(iR f x y c).2<W64:=by
 have h:=sQ (x:=x) hy hf hc rfl rfl rfl rfl rfl rfl;refine⟨aJQ f x y c,?_⟩;have h3:=h.2.2.1;rw[h.2.1]at h3;exact h3
theorem uF(Az Ax:Option Addr)(nz cz nx cx gz t off f c0:Nat)(xs cs:List Nat)(w:World)(hb:Blk .u64 w gz t cs)(lx:xs.length=nx)(hoff:off+nx≤cs.length)(hz:0<nx→Az=some ⟨gz,off,none⟩)(hnz:nx≤cz)(hcx:nx≤cx)(hn:nx≤1099511627776)(sx:Src w gz off Ax xs)(hx:∀d∈xs,d<W64)(hf:f<W64)(hc:c0<W64):Calls Tryz.prog 306 #[.slice Az nz cz,.slice Ax nx cx,.int .u64 (f:Int),.int .u64 (c0:Int)] w
   fun e w'=>∃(o:List Nat) (c:Nat),e=.returned (.int .u64 (c:Int))∧c<W64∧o.length=nx∧(∀d∈o,d<W64)∧vl W64 o+W64^nx*c=f*vl W64 xs+c0∧
    Blk .u64 w' gz t (cs.take off++o++cs.drop (off+nx))∧w.grownBy w' (some gz):=by
 go_enter Tryz.func306,Tryz.ntmps306
 go_wp2_with fail
 have hbox:∀w1:World,(w.alloc (.cells #[.int .u64 (f:Int)] 127)).grownBy w1 (some gz)→w1.cell? ⟨w.heap.size,0,none⟩=some (.int .u64 (f:Int)):=fun w1 hg=>by
  rw[Gr.cell hg (p:=⟨w.heap.size,0,none⟩) (by simp) (fun e=>by have:=hb.lt;simp only at e;omega)];exact dW _ _ _
 have sx1:Src (w.alloc (.cells #[.int .u64 (f:Int)] 127)) gz off Ax xs:=sx.q ((Q.refl _).alloc _)
 refine (aAB Az Ax Ax nz cz nx cx nx cx gz t off c0 xs xs cs _ (.pointer (some ⟨w.heap.size,0,none⟩)) (iO f) (·<W64) (wX f hf) hc
  (fun x y c w1 hx _ hc hg=>aIz f x y c _ w1 hx hc hf (hbox w1 hg)) (hb.alloc _) hoff hz hnz hcx hcx hn lx lx sx1 sx1 hx hx).mono ?_
 rintro e w1 ⟨rfl,hb1,hg1⟩;have h1:=gP (b:=W64) (P:=(·<W64)) (wX f hf) (c:=c0) rfl hx hx hc;have v1:=nM (b:=W64) (p:=f) (q:=0) (P:=(·<W64)) (wX f hf) (fun x y c _ _ _=>by
  unfold iO;rw[Nat.mod_add_div,Nat.mul_comm x];omega) (c:=c0) rfl hx hx hc
 have l1:=aW (iO f) xs xs c0 rfl;rw[lx]at l1 v1;generalize (aG (iO f) xs xs c0).1=o1 at*
 generalize (aG (iO f) xs xs c0).2=c1 at*
 have V1:=hZ v1;have L1:=hZ l1;clear v1 l1 lx;go_wp2_with fail
 go_ret
 exact⟨o1,c1,rfl,h1.2,L1.out,h1.1,by rw[V1.out];omega,hb1,Gr.trans (Gr.alloc (Gr.refl _ _) _) hg1⟩
theorem aC4(Az Ay:Option Addr)(nz cz ny cy gz t off f:Nat)(ys cs:List Nat)(w:World)(hb:Blk .u64 w gz t cs)(ly:ys.length=ny)(hoff:off+ny≤cs.length)(hz:0<ny→Az=some ⟨gz,off,none⟩)(hnz:ny≤cz)(hcy:ny≤cy)(hn:ny≤1099511627776)(sy:Src w gz off Ay ys)(hy:∀d∈ys,d<W64)(hcs:∀d∈cs,d<W64)(hf:f<W64):Calls Tryz.prog 312 #[.slice Az nz cz,.slice Ay ny cy,.int .u64 (f:Int)] w
   fun e w'=>∃(o:List Nat) (c:Nat),e=.returned (.int .u64 (c:Int))∧c<W64∧o.length=ny∧(∀d∈o,d<W64)∧vl W64 o+W64^ny*c=vl W64 ((cs.drop off).take ny)+f*vl W64 ys∧
    Blk .u64 w' gz t (cs.take off++o++cs.drop (off+ny))∧w.grownBy w' (some gz):=by
 go_enter Tryz.func312,Tryz.ntmps312
 go_wp2_with fail
 have hbox:∀w1:World,(w.alloc (.cells #[.int .u64 (f:Int)] 127)).grownBy w1 (some gz)→w1.cell? ⟨w.heap.size,0,none⟩=some (.int .u64 (f:Int)):=fun w1 hg=>by
  rw[Gr.cell hg (p:=⟨w.heap.size,0,none⟩) (by simp) (fun e=>by have:=hb.lt;simp only at e;omega)];exact dW _ _ _
 have hq1:Q w (w.alloc (.cells #[.int .u64 (f:Int)] 127)):=(Q.refl _).alloc _;have lz:((cs.drop off).take ny).length=ny:=by rw[List.length_take,List.length_drop];omega
 have hzd:∀d∈(cs.drop off).take ny,d<W64:=aR (fE hcs);have sz:Src (w.alloc (.cells #[.int .u64 (f:Int)] 127)) gz off Az ((cs.drop off).take ny):=by
  rcases Nat.eq_zero_or_pos ny with h0|h0
  ·subst h0;rw[List.take_zero];exact Src.nil
  ·rw[hz h0];exact (Src.own (hb.q hq1))
 have sy1:=sy.q hq1
 refine (vY Az Az Ay nz cz nz cz ny cy gz t off 0 ((cs.drop off).take ny) ys cs _ (.pointer (some ⟨w.heap.size,0,none⟩)) (dU f) (·<W64) (nZ f hf) (by decide)
  (fun x y c w1 hx hy hc hg=>aB6 f x y c _ w1 hx hy hc hf (hbox w1 hg)) (hb.alloc _) hoff hz hnz hnz hcy hn lz ly sz sy1 hzd hy).mono ?_
 rintro e w1 ⟨rfl,hb1,hg1⟩;have h1:=gP (b:=W64) (P:=(·<W64)) (nZ f hf) (c:=0) (lz.trans ly.symm) hzd hy (by decide);have v1:=nM (b:=W64) (p:=1) (q:=f) (P:=(·<W64)) (nZ f hf) (fun x y c _ _ _=>by
  unfold dU;rw[Nat.mod_add_div,Nat.mul_comm y];omega) (c:=0) (lz.trans ly.symm) hzd hy (by decide)
 have l1:=aW (dU f) ((cs.drop off).take ny) ys 0 (lz.trans ly.symm);rw[lz]at l1 v1;generalize (aG (dU f) ((cs.drop off).take ny) ys 0).1=o1 at*
 generalize (aG (dU f) ((cs.drop off).take ny) ys 0).2=c1 at*
 have V1:=hZ v1;have L1:=hZ l1;clear v1 l1 lz ly;go_wp2_with fail
 go_ret
 exact⟨o1,c1,rfl,h1.2,L1.out,h1.1,by rw[V1.out];omega,hb1,Gr.trans (Gr.alloc (Gr.refl _ _) _) hg1⟩
theorem aC5(Az Ay:Option Addr)(nz cz ny cy gz t off f:Nat)(ys cs:List Nat)(w:World)(hb:Blk .u64 w gz t cs)(ly:ys.length=ny)(hoff:off+ny≤cs.length)(hz:0<ny→Az=some ⟨gz,off,none⟩)(hnz:ny≤cz)(hcy:ny≤cy)(hn:ny≤1099511627776)(sy:Src w gz off Ay ys)(hy:∀d∈ys,d<W64)(hcs:∀d∈cs,d<W64)(hf:f<W64):Calls Tryz.prog 397 #[.slice Az nz cz,.slice Ay ny cy,.int .u64 (f:Int)] w
   fun e w'=>∃(o:List Nat) (c:Nat),e=.returned (.int .u64 (c:Int))∧c<W64∧o.length=ny∧(∀d∈o,d<W64)∧vl W64 ((cs.drop off).take ny)+W64^ny*c=vl W64 o+f*vl W64 ys∧
    Blk .u64 w' gz t (cs.take off++o++cs.drop (off+ny))∧w.grownBy w' (some gz):=by
 go_enter Tryz.func397,Tryz.ntmps397
 go_wp2_with fail
 have hbox:∀w1:World,(w.alloc (.cells #[.int .u64 (f:Int)] 127)).grownBy w1 (some gz)→w1.cell? ⟨w.heap.size,0,none⟩=some (.int .u64 (f:Int)):=fun w1 hg=>by
  rw[Gr.cell hg (p:=⟨w.heap.size,0,none⟩) (by simp) (fun e=>by have:=hb.lt;simp only at e;omega)];exact dW _ _ _
 have hq1:Q w (w.alloc (.cells #[.int .u64 (f:Int)] 127)):=(Q.refl _).alloc _;have lz:((cs.drop off).take ny).length=ny:=by rw[List.length_take,List.length_drop];omega
 have hzd:∀d∈(cs.drop off).take ny,d<W64:=aR (fE hcs);have sz:Src (w.alloc (.cells #[.int .u64 (f:Int)] 127)) gz off Az ((cs.drop off).take ny):=by
  rcases Nat.eq_zero_or_pos ny with h0|h0
  ·subst h0;rw[List.take_zero];exact Src.nil
  ·rw[hz h0];exact (Src.own (hb.q hq1))
 have sy1:=sy.q hq1
 refine (vZ Az Az Ay nz cz nz cz ny cy gz t off 0 ((cs.drop off).take ny) ys cs _ (.pointer (some ⟨w.heap.size,0,none⟩)) (iR f) (·<W64) (oC f hf) (by decide)
  (fun x y c w1 _ hy hc hg=>aB7 f x y c _ w1 hy hc hf (hbox w1 hg)) (hb.alloc _) hoff hz hnz hnz hcy hn lz ly sz sy1 hzd hy).mono ?_
 rintro e w1 ⟨rfl,hb1,hg1⟩;have h1:=gP (b:=W64) (P:=(·<W64)) (oC f hf) (c:=0) (lz.trans ly.symm) hzd hy (by decide);have v1:=sS (b:=W64) (q:=f) (P:=(·<W64)) (oC f hf) (fun x y c hx _ _=>by
  have:=aHC (f:=f) (y:=y) (c:=c) hx;rw[Nat.mul_comm f];exact this) (c:=0) (lz.trans ly.symm) hzd hy (by decide)
 have l1:=aW (iR f) ((cs.drop off).take ny) ys 0 (lz.trans ly.symm);rw[lz]at l1 v1;generalize (aG (iR f) ((cs.drop off).take ny) ys 0).1=o1 at*
 generalize (aG (iR f) ((cs.drop off).take ny) ys 0).2=c1 at*
 have V1:=hZ v1;have L1:=hZ l1;clear v1 l1 lz ly;go_wp2_with fail
 go_ret
 exact⟨o1,c1,rfl,h1.2,L1.out,h1.1,V1.out,hb1,Gr.trans (Gr.alloc (Gr.refl _ _) _) hg1⟩
theorem oO(Az Ax Ay:Option Addr)(nz cz nx cx ny cy gz t off f g:Nat)(xs ys cs:List Nat)(w:World)(hb:Blk .u64 w gz t cs)(lx:xs.length=ny)(ly:ys.length=ny)(hnx:nx=ny)(hoff:off+ny≤cs.length)(hz:0<ny→Az=some ⟨gz,off,none⟩)(hnz:ny≤cz)(hcx:ny≤cx)(hcy:ny≤cy)(hn:ny≤1099511627776)(sx:Src w gz off Ax xs)(sy:Src w gz off Ay ys)(hx:∀d∈xs,d<W64)(hy:∀d∈ys,d<W64)(hf:f<9223372036854775808)(hg:g<9223372036854775808)(hle:g*vl W64 ys≤f*vl W64 xs)(hlt:f*vl W64 xs-g*vl W64 ys<W64^ny):Calls Tryz.prog 414 #[.slice Az nz cz,.slice Ax nx cx,.slice Ay ny cy,.int .u64 (f:Int),.int .u64 (g:Int)] w
   fun e w'=>∃(o:List Nat),e=.returned (.tuple #[])∧o.length=ny∧(∀d∈o,d<W64)∧vl W64 o=f*vl W64 xs-g*vl W64 ys∧
    Blk .u64 w' gz t (cs.take off++o++cs.drop (off+ny))∧w.grownBy w' (some gz):=by
 subst hnx;have hf6:f<W64:=by rw[bE];omega
 have hg6:g<W64:=by rw[bE];omega
 have LX:=hZ lx;have LY:=hZ ly;clear lx ly;go_enter Tryz.func414,Tryz.ntmps414
 go_wp2_with fail
 have hq2:Q w ((w.alloc (.cells #[.int .u64 (f:Int)] 127)).alloc (.cells #[.int .u64 (g:Int)] 127)):=((Q.refl _).alloc _).alloc _;have hbox:∀w1:World,((w.alloc (.cells #[.int .u64 (f:Int)] 127)).alloc (.cells #[.int .u64 (g:Int)] 127)).grownBy w1 (some gz)→
     w1.cell? ⟨w.heap.size,0,none⟩=some (.int .u64 (f:Int))∧w1.cell? ⟨w.heap.size+1,0,none⟩=some (.int .u64 (g:Int)):=fun w1 hg=>by
  constructor
  ·rw[Gr.cell hg (p:=⟨w.heap.size,0,none⟩) (by simp;omega) (fun e=>by have:=hb.lt;simp only at e;omega),World.cell?_alloc_lt _ _ _ (by simp)];exact dW _ _ _
  ·rw[Gr.cell hg (p:=⟨w.heap.size+1,0,none⟩) (by simp) (fun e=>by have:=hb.lt;simp only at e;omega)];have h:=dW (w.alloc (.cells #[.int .u64 (f:Int)] 127)) (.int .u64 (g:Int)) 127;rw[show (w.alloc (.cells #[.int .u64 (f:Int)] 127)).heap.size=w.heap.size+1 by simp]at h;exact h
 refine (yM Az Ax Ay nz cz nx cx nx cy gz t off 0 xs ys cs _ (.pointer (some ⟨w.heap.size,0,none⟩)) (.pointer (some ⟨w.heap.size+1,0,none⟩)) (dI f g) (·<W64) (fun x y c _ _ _=>uQ f g x y c) (by decide)
  (fun x y c w1 hx hy hc hgr=>aE0 f g x y c _ _ w1 hx hy hc hf6 hg6 (hbox w1 hgr).1 (hbox w1 hgr).2) (hb.q hq2) hoff hz hnz hcx hcy hn LX.out LY.out (sx.q hq2) (sy.q hq2) hx hy).mono ?_
 rintro e w1 ⟨rfl,hb1,hg1⟩;have hl:=LX.out.trans LY.out.symm;have h1:=gP (b:=W64) (P:=(·<W64)) (g:=dI f g) (fun x y c _ _ _=>uQ f g x y c) (c:=0) hl hx hy (by decide);have v1:=aAx hf hg hl hx hy hle (by rw[LX.out];exact hlt);have l1:=aW (dI f g) xs ys 0 hl;rw[LX.out]at l1;generalize (aG (dI f g) xs ys 0).1=o1 at*
 have V1:=hZ v1;have L1:=hZ l1;clear v1 l1;go_wp2_with fail
 go_end0
 exact⟨o1,rfl,L1.out,h1.1,V1.out,hb1,Gr.trans (Gr.alloc (Gr.alloc (Gr.refl _ _) _) _) hg1⟩
theorem nA(x y c:Nat)(hx:x<W64)(_:y<W64)(hc:c≤1):(dV x y c).1<W64∧(dV x y c).2≤1:=by
 unfold dV;rw[bE]at*
 show (x+c) % _<_∧(x+c)/_≤1;omega
theorem nC(x y c:Nat)(_:x<W64)(_:y<W64)(_:c≤1):(dH x y c).1<W64∧(dH x y c).2≤1:=by
 unfold dH;refine⟨Nat.mod_lt _ (by decide),?_⟩;show (if x<c then 1 else 0)≤1;split<;>omega
theorem rP(Az Ax Ay:Option Addr)(nz cz nx cx ny cy gz t off:Nat)(xs ys cs:List Nat)(w:World)(hb:Blk .u64 w gz t cs)(lx:xs.length=nx)(ly:ys.length=ny)(hyx:ny≤nx)(hoff:off+nx≤cs.length)(hz:0<nx→Az=some ⟨gz,off,none⟩)(hnz:nx≤nz)(hcz:nz≤cz)(hcx:nx≤cx)(hcy:ny≤cy)(hn:nx≤1099511627776)(sx:Src w gz off Ax xs)(sy:Src w gz off Ay ys)(hx:∀d∈xs,d<W64)(hy:∀d∈ys,d<W64):Calls Tryz.prog 313 #[.slice Az nz cz,.slice Ax nx cx,.slice Ay ny cy] w
   fun e w'=>∃(o:List Nat) (c:Nat),e=.returned (.int .u64 (c:Int))∧c≤1∧o.length=nx∧(∀d∈o,d<W64)∧vl W64 o+W64^nx*c=vl W64 xs+vl W64 ys∧
    Blk .u64 w' gz t (cs.take off++o++cs.drop (off+nx))∧w.grownBy w' (some gz):=by
 have LX:=hZ lx;have LY:=hZ ly;clear lx ly;have lt1:(xs.take ny).length=ny:=by rw[List.length_take,LX.out];omega
 have lt2:(xs.drop ny).length=nx-ny:=by rw[List.length_drop,LX.out]
 have LT1:=hZ lt1;have LT2:=hZ lt2;clear lt1 lt2;go_enter Tryz.func313,Tryz.ntmps313
 go_wp2_with fail
 refine (aC1 Az Ax Ay nz cz nx cx ny cy gz t off 0 (xs.take ny) ys cs w (by omega) hb (by omega) (fun h=>hz (by omega)) (by omega) (by omega) hcy (by omega) LT1.out LY.out (sx.take ny) sy (aR hx) hy).mono ?_;rintro e w1 ⟨rfl,hb1,hg1⟩;have h1:=gP (b:=W64) (P:=(·≤1)) wU (c:=0) (by rw[LT1.out,LY.out]) (aR (n:=ny) hx) hy (by omega);have v1:=nM (b:=W64) (p:=1) (q:=1) (P:=(·≤1)) wU (fun x y c _ _ _=>by
  unfold dO;rw[Nat.mod_add_div];omega) (c:=0) (by rw[LT1.out,LY.out]) (aR (n:=ny) hx) hy (by omega)
 have l1:=aW dO (xs.take ny) ys 0 (by rw[LT1.out,LY.out]);rw[LT1.out]at l1 v1;have sx1:=sx.after hb hb1 hg1 l1 (by rw[LX.out];omega) (by rw[LX.out];exact hoff) (cap:=cx) (by rw[LX.out];exact hcx);generalize (aG dO (xs.take ny) ys 0).1=o1 at*
 generalize (aG dO (xs.take ny) ys 0).2=c1 at*
 have V1:=hZ v1;have L1:=hZ l1;clear v1 l1;rcases Nat.lt_or_ge ny nx with hlt|hge
 ·rw[if_neg (by omega)]at sx1;obtain rfl:=hz (by omega);go_wp2_with fail
  go_quiet (fail)
  go_wp2_with fail
  have hl1:(cs.take off++o1++cs.drop (off+ny)).length=cs.length:=aV L1.out (by omega);have hxd:∀d∈xs.drop ny,d<W64:=fE hx
  refine (oL _ _ _ (nz-ny) (cz-ny) (nx-ny) (cx-ny) (nx-ny) (cx-ny) gz t (off+ny) c1 (xs.drop ny) (xs.drop ny) (cs.take off++o1++cs.drop (off+ny)) _ dV (·≤1) nA h1.2
   (fun x y c w1 _ _ hc _=>yK x y c w1 hc) (hb1.drewN _) (by rw[hl1];omega) (fun _=>by simp) (by omega) (by omega) (by omega) (by omega) LT2.out LT2.out sx1 sx1 hxd hxd).mono ?_
  rintro e w2 ⟨rfl,hb2,hg2⟩;have h2:=gP (b:=W64) (P:=(·≤1)) nA (c:=c1) rfl hxd hxd h1.2;have v2:=nM (b:=W64) (p:=1) (q:=0) (P:=(·≤1)) nA (fun x y c _ _ _=>by
   unfold dV;rw[Nat.mod_add_div];omega) (c:=c1) rfl hxd hxd h1.2
  have l2:=aW dV (xs.drop ny) (xs.drop ny) c1 rfl;rw[LT2.out]at l2 v2;generalize (aG dV (xs.drop ny) (xs.drop ny) c1).1=o2 at*
  generalize (aG dV (xs.drop ny) (xs.drop ny) c1).2=c2 at*
  rw[rY L1.out l2 (by omega),show ny+(nx-ny)=nx by omega]at hb2;have V2:=hZ v2;have L2:=hZ l2;clear v2 l2 hl1;go_wp2_with fail
  go_ret
  refine⟨o1++o2,c2,rfl,h2.2,by rw[List.length_append,L1.out,L2.out];omega,?_,?_,hb2,Gr.trans (Gr.drewN hg1 _) hg2⟩
  ·intro d hd;rcases List.mem_append.1 hd with hd|hd
   ·exact h1.1 d hd
   ·exact h2.1 d hd
  ·rw[dY,L1.out,bI W64 ny xs (by rw[LX.out];exact hyx)];exact aFz hyx V1.out V2.out
 ·obtain rfl:nx=ny:=(by omega);have ext:xs.take nx=xs:=List.take_of_length_le (by rw[LX.out];exact Nat.le_refl _);rw[ext]at V1;go_wp2_with fail
  go_quiet (fail)
  go_wp2_with fail
  all_goals
   refine (oL _ _ _ _ _ 0 _ 0 _ gz t (off+nx) c1 [] [] (cs.take off++o1++cs.drop (off+nx)) _ dV (·≤1) nA h1.2
    (fun x y c w1 _ _ hc _=>yK x y c w1 hc) (hb1.drewN _) (by rw[aV L1.out (by omega)];omega) (by omega) (by omega) (by omega) (by omega) (by omega) rfl rfl Src.nil Src.nil (by simp) (by simp)).mono ?_
   rintro e w2 ⟨rfl,hb2,hg2⟩;rw[bQ,bL]at hb2;go_wp2_with fail
   go_ret
   exact⟨o1,c1,rfl,h1.2,L1.out,h1.1,by rw[V1.out];omega,hb2,Gr.trans (Gr.drewN hg1 _) hg2⟩
theorem aE1(Az Ax Ay:Option Addr)(nz cz nx cx ny cy gz t off:Nat)(xs ys cs:List Nat)(w:World)(hb:Blk .u64 w gz t cs)(lx:xs.length=nx)(ly:ys.length=ny)(hyx:ny≤nx)(hoff:off+nx≤cs.length)(hz:0<nx→Az=some ⟨gz,off,none⟩)(hnz:nx≤nz)(hcz:nz≤cz)(hcx:nx≤cx)(hcy:ny≤cy)(hn:nx≤1099511627776)(sx:Src w gz off Ax xs)(sy:Src w gz off Ay ys)(hx:∀d∈xs,d<W64)(hy:∀d∈ys,d<W64):Calls Tryz.prog 314 #[.slice Az nz cz,.slice Ax nx cx,.slice Ay ny cy] w
   fun e w'=>∃(o:List Nat) (c:Nat),e=.returned (.int .u64 (c:Int))∧c≤1∧o.length=nx∧(∀d∈o,d<W64)∧vl W64 xs+W64^nx*c=vl W64 o+vl W64 ys∧
    Blk .u64 w' gz t (cs.take off++o++cs.drop (off+nx))∧w.grownBy w' (some gz):=by
 have LX:=hZ lx;have LY:=hZ ly;clear lx ly;have lt1:(xs.take ny).length=ny:=by rw[List.length_take,LX.out];omega
 have lt2:(xs.drop ny).length=nx-ny:=by rw[List.length_drop,LX.out]
 have LT1:=hZ lt1;have LT2:=hZ lt2;clear lt1 lt2;go_enter Tryz.func314,Tryz.ntmps314
 go_wp2_with fail
 refine (aC2 Az Ax Ay nz cz nx cx ny cy gz t off 0 (xs.take ny) ys cs w (by omega) hb (by omega) (fun h=>hz (by omega)) (by omega) (by omega) hcy (by omega) LT1.out LY.out (sx.take ny) sy (aR hx) hy).mono ?_;rintro e w1 ⟨rfl,hb1,hg1⟩;have h1:=gP (b:=W64) (P:=(·≤1)) wV (c:=0) (by rw[LT1.out,LY.out]) (aR (n:=ny) hx) hy (by omega);have v1:=sS (b:=W64) (q:=1) (P:=(·≤1)) wV (fun x y c hx hy hc=>by
  unfold dE;rw[bE]at*;simp only;split<;>omega) (c:=0) (by rw[LT1.out,LY.out]) (aR (n:=ny) hx) hy (by omega)
 have l1:=aW dE (xs.take ny) ys 0 (by rw[LT1.out,LY.out]);rw[LT1.out]at l1 v1;have sx1:=sx.after hb hb1 hg1 l1 (by rw[LX.out];omega) (by rw[LX.out];exact hoff) (cap:=cx) (by rw[LX.out];exact hcx);generalize (aG dE (xs.take ny) ys 0).1=o1 at*
 generalize (aG dE (xs.take ny) ys 0).2=c1 at*
 have V1:=hZ v1;have L1:=hZ l1;clear v1 l1;rcases Nat.lt_or_ge ny nx with hlt|hge
 ·rw[if_neg (by omega)]at sx1;obtain rfl:=hz (by omega);go_wp2_with fail
  go_quiet (fail)
  go_wp2_with fail
  have hl1:(cs.take off++o1++cs.drop (off+ny)).length=cs.length:=aV L1.out (by omega);have hxd:∀d∈xs.drop ny,d<W64:=fE hx
  refine (oM _ _ _ (nz-ny) (cz-ny) (nx-ny) (cx-ny) (nx-ny) (cx-ny) gz t (off+ny) c1 (xs.drop ny) (xs.drop ny) (cs.take off++o1++cs.drop (off+ny)) _ dH (·≤1) nC h1.2
   (fun x y c w1 _ _ hc _=>yL x y c w1 hc) (hb1.drewN _) (by rw[hl1];omega) (fun _=>by simp) (by omega) (by omega) (by omega) (by omega) LT2.out LT2.out sx1 sx1 hxd hxd).mono ?_
  rintro e w2 ⟨rfl,hb2,hg2⟩;have h2:=gP (b:=W64) (P:=(·≤1)) nC (c:=c1) rfl hxd hxd h1.2;have v2:=sS (b:=W64) (q:=0) (P:=(·≤1)) nC (fun x y c hx hy hc=>by
   unfold dH;rw[bE]at*;simp only;split<;>omega) (c:=c1) rfl hxd hxd h1.2
  have l2:=aW dH (xs.drop ny) (xs.drop ny) c1 rfl;rw[LT2.out]at l2 v2;generalize (aG dH (xs.drop ny) (xs.drop ny) c1).1=o2 at*
  generalize (aG dH (xs.drop ny) (xs.drop ny) c1).2=c2 at*
  rw[rY L1.out l2 (by omega),show ny+(nx-ny)=nx by omega]at hb2;have V2:=hZ v2;have L2:=hZ l2;clear v2 l2 hl1;go_wp2_with fail
  go_ret
  refine⟨o1++o2,c2,rfl,h2.2,by rw[List.length_append,L1.out,L2.out];omega,?_,?_,hb2,Gr.trans (Gr.drewN hg1 _) hg2⟩
  ·intro d hd;rcases List.mem_append.1 hd with hd|hd
   ·exact h1.1 d hd
   ·exact h2.1 d hd
  ·rw[dY,L1.out,bI W64 ny xs (by rw[LX.out];exact hyx)];exact aFA hyx V1.out V2.out
 ·obtain rfl:nx=ny:=(by omega);have ext:xs.take nx=xs:=List.take_of_length_le (by rw[LX.out];exact Nat.le_refl _);rw[ext]at V1;go_wp2_with fail
  go_quiet (fail)
  go_wp2_with fail
  all_goals
   refine (oM _ _ _ _ _ 0 _ 0 _ gz t (off+nx) c1 [] [] (cs.take off++o1++cs.drop (off+nx)) _ dH (·≤1) nC h1.2
    (fun x y c w1 _ _ hc _=>yL x y c w1 hc) (hb1.drewN _) (by rw[aV L1.out (by omega)];omega) (by omega) (by omega) (by omega) (by omega) (by omega) rfl rfl Src.nil Src.nil (by simp) (by simp)).mono ?_
   rintro e w2 ⟨rfl,hb2,hg2⟩;rw[bQ,bL]at hb2;go_wp2_with fail
   go_ret
   exact⟨o1,c1,rfl,h1.2,L1.out,h1.1,by rw[V1.out];omega,hb2,Gr.trans (Gr.drewN hg1 _) hg2⟩
theorem aCe(A B:Option Addr)(n c d:Nat)(xs ys:List Nat)(w:World)(lx:Hid (xs.length=n))(ly:Hid (ys.length=n))(hn:n≤9223372036854775807)(rx:Rw w A xs)(ry:Rw w B ys)(wx:Wf W64 xs)(wy:Wf W64 ys):
  Calls Tryz.prog 238 #[.slice A n c,.slice B n d] w fun e w'=>e=.returned (.int .i64 (cmp (vl W64 xs) (vl W64 ys)))∧Q w w':=by
 go_enter Tryz.func238,Tryz.ntmps238
 go_wp2_with fail
 go_loopw [5] (fun i w1=>∃k:Nat,k≤n∧i=.int .i64 ((k:Int)-1)∧xs.drop k=ys.drop k∧∃m,w1=w.drewN m) (fun i _=>(intOf i+1).toNat)
 case atStart=>exact⟨n,by omega,rfl,by rw[List.drop_of_length_le (by rw[lx.out];omega),List.drop_of_length_le (by rw[ly.out];omega)],0,rfl⟩
 case round=>
  obtain⟨k,hk,rfl,hdrop,m,rfl⟩:=hrel;have HD:=hZ hdrop;clear hdrop;by_cases hlt:0<k
  ·obtain⟨j,rfl⟩:∃j,k=j+1:=⟨k-1,by omega⟩
   have jx:j<xs.length:=(by rw[lx.out];omega);have jy:j<ys.length:=(by rw[ly.out];omega);obtain⟨b,o,rfl,hb,hcx⟩:=rx.at_ jx;obtain⟨b2,o2,rfl,hb',hcy⟩:=ry.at_ jy;rw[show ((j+1:Nat):Int)-1=(j:Int) from by omega];have HX:=hZ (List.getElem?_eq_getElem jx);have HY:=hZ (List.getElem?_eq_getElem jy);generalize xs[j]=x at*
   generalize ys[j]=y at*
   clear jx jy hb hb';rcases Nat.lt_trichotomy x y with h|h|h
   ·go_wp2_with fail
    go_quiet (fail)
    go_wp2_with fail
    go_ret
    exact⟨by rw[jR (sK wx.1 HD.out HX.out HY.out h)];rfl,(by repeat (first|exact Q.refl _|refine Q.drewN ?_ _))⟩
   ·subst h;go_wp2_with fail
    go_quiet (fail)
    go_wp2_with fail
    go_quiet (fail)
    go_wp2_with fail
    refine⟨⟨j,by omega,rfl,?_,_,rfl⟩,by simp[intOf]⟩;obtain⟨jx,ex⟩:=List.getElem?_eq_some_iff.1 HX.out;obtain⟨jy,ey⟩:=List.getElem?_eq_some_iff.1 HY.out;rw[List.drop_eq_getElem_cons jx,List.drop_eq_getElem_cons jy,ex,ey,HD.out]
   ·go_wp2_with fail
    go_quiet (fail)
    go_wp2_with fail
    go_quiet (fail)
    go_wp2_with fail
    go_ret
    exact⟨by rw[jS (sK wy.1 HD.out.symm HY.out HX.out h)];rfl,(by repeat (first|exact Q.refl _|refine Q.drewN ?_ _))⟩
  ·obtain rfl:k=0:=(by omega);rw[show ((0:Nat):Int)-1=-1 from by omega];go_wp2_with fail
   go_ret
   have e:xs=ys:=(by simpa using HD.out);exact⟨by rw[e,cmp_eq];rfl,(by repeat (first|exact Q.refl _|refine Q.drewN ?_ _))⟩
theorem bM(x y:Value)(M N:Nat)(w:World)(hx:Nm w x M)(hy:Nm w y N)(hM:dg W64 M≤LIM)(hN:dg W64 N≤LIM):
  Calls Tryz.prog 238 #[x,y] w fun e w'=>e=.returned (.int .i64 (cmp M N))∧Q w w':=by
 obtain⟨A,c,xs,rfl,hc,rx,wx,rfl⟩:=hx;obtain⟨B,d,ys,rfl,hd,ry,wy,rfl⟩:=hy;rw[←wx.len aD,aC]at hM;rw[←wy.len aD,aC]at hN;rcases Nat.lt_trichotomy xs.length ys.length with hlt|heq|hgt
 ·have h:=Wf.len_lt (b:=W64) (by decide) wx.1 wy.2 hlt;rw[jR h];clear h;go_enter Tryz.func238,Tryz.ntmps238
  go_wp2_with fail
  go_ret
  exact⟨rfl,Q.refl _⟩
 ·obtain⟨n,hn⟩:∃n,xs.length=n:=⟨_,rfl⟩
  have hn2:ys.length=n:=(by omega);rw[hn,hn2];exact aCe A B n c d xs ys w hn hn2 (by omega) rx ry wx wy
 ·have h:=Wf.len_lt (b:=W64) (by decide) wy.1 wx.2 hgt;rw[jS h];clear h;go_enter Tryz.func238,Tryz.ntmps238
  go_wp2_with fail
  go_ret
  exact⟨rfl,Q.refl _⟩
theorem vS(x:Value)(N:Nat)(w:World)(hx:Nm w x N)(hN:dg W64 N≤LIM):Calls Tryz.prog 243 #[x] w (eQ N w):=by
 obtain⟨A,c,xs,rfl,hc,rx,wx,rfl⟩:=hx;rw[←wx.len aD]at hN;by_cases h0:xs.length=0
 ·obtain rfl:xs=[]:=List.eq_nil_of_length_eq_zero h0;simp only[List.length_nil];clear h0;go_enter Tryz.func243,Tryz.ntmps243
  go_wp2_with fail
  go_ret
  exact⟨_,rfl,Nm.zero _ _,Q.refl _,Nw.nil⟩
 ·have h1:((xs.length:Int) == 0)=false:=beq_eq_false_iff_ne.2 (by omega);have hmk:=aGP xs.length (xs.length:Int) rfl hN;rw[aC]at hN;have hb:Blk .u64 (w.alloc (.cells (zs .u64 xs.length) 127)) w.heap.size 127 (List.replicate xs.length 0):=Blk.made _ _ _;have rx1:Rw (w.alloc (.cells (zs .u64 xs.length) 127)) A xs:=rx.q ((Q.refl _).alloc _);clear h0;go_enter Tryz.func243,Tryz.ntmps243
  go_wp2_with (with_reducible refine eO rfl _ _ _ _ rfl 127 Tryz.underlying49 (by kernel_rfl) _ _ _ _ _ _ rfl rfl w.heap.size 0 127 (List.replicate xs.length 0) xs xs.length hb rx1 rfl (by omega) (fun _=>rfl) (by simp) ?_;intro w2 hb2 hg2)
  go_ret
  have e:(List.replicate xs.length 0).take 0++xs.take xs.length++(List.replicate xs.length 0).drop (0+xs.length)=xs:=(by simp);rw[e]at hb2;refine⟨_,rfl,Nm.of_rw (Rw.of_blk hb2) (Nat.le_refl _) (Nat.le_refl _) (by rw[List.take_length];exact wx.2) wx.1 (by rw[List.take_length]),Q.gr ((Q.refl _).alloc _) hg2 (Nat.le_refl _),Nw.at_ (Nat.le_refl _)⟩
theorem aCf(x y:Value)(M N:Nat)(w:World)(hx:Nm w x M)(hy:Nm w y N)(hM:dg W64 M+1≤LIM)(hN:dg W64 N+1≤LIM):
  Calls Tryz.prog 235 #[x,y] w (eQ (M+N) w):=by
 have hlen:dg W64 N≤dg W64 M∨dg W64 M<dg W64 N:=by omega
 rcases hlen with hlen|hlen
 case' inl=>
  obtain⟨A,c,xs,rfl,hc,rx,wx,rfl⟩:=hx;obtain⟨B,d,ys,rfl,hd,ry,wy,rfl⟩:=hy;rw[←wx.len aD,←wy.len aD]at hlen;rw[←wx.len aD]at hM;rw[←wy.len aD]at hN
 case' inr=>
  obtain⟨B,d,ys,rfl,hd,ry,wy,rfl⟩:=hx;obtain⟨A,c,xs,rfl,hc,rx,wx,rfl⟩:=hy;rw[←wx.len aD,←wy.len aD]at hlen;rw[←wy.len aD]at hM;rw[←wx.len aD]at hN;rw[Nat.add_comm (vl W64 ys)]
 all_goals
  have hmk:=iH (xs.length+1) ((xs.length:Int)+1) rfl (by omega);rw[aC]at hM hN;have hq1:Q w (w.alloc (.cells (zs .u64 (xs.length+1)) 127)):=(Q.refl _).alloc _;go_enter Tryz.func235,Tryz.ntmps235
  go_wp2_with fail
  refine (rP _ A B (xs.length+1) (xs.length+1) xs.length c ys.length d w.heap.size 127 0 xs ys (List.replicate (xs.length+1) 0) _ (Blk.made _ _ _) rfl rfl (by omega) (by simp) (fun _=>rfl) (by omega) (Nat.le_refl _) hc hd (by omega)
   (Src.old rx hq1 (Nat.le_refl _)) (Src.old ry hq1 (Nat.le_refl _)) wx.1 wy.1).mono ?_
  rintro e w1 ⟨o,cy,rfl,hcy,hol,hod,hv,hb1,hg1⟩;have e1:(List.replicate (xs.length+1) 0).take 0++o++(List.replicate (xs.length+1) 0).drop (0+xs.length)=o++[0]:=(by simp);rw[e1]at hb1;have hln:(o++[0]).length=xs.length+1:=(by rw[List.length_append,hol];rfl);obtain⟨old,hcell⟩:=hb1.ex (i:=xs.length) (by rw[hln];omega);have hfz:=hb1.frozen xs.length;have HV:=hZ hv;have HOL:=hZ hol;have HLN:=hZ hln;clear hv hol hln hmk;go_wp2_with fail
  have hb2:=hb1.put xs.length cy (e:=(cy:Int)) rfl;have e2:(o++[0]).set xs.length cy=o++[cy]:=by
   rw[List.set_append,if_neg (by rw[HOL.out];omega),HOL.out,Nat.sub_self];rfl
  rw[e2]at hb2;have hod2:∀d∈o++[cy],d<W64:=by
   intro d hd;rcases List.mem_append.1 hd with hd|hd
   ·exact hod d hd
   ·simp at hd;subst hd;rw[bE];omega
  have hln2:(o++[cy]).length=xs.length+1:=(by rw[List.length_append,HOL.out];rfl);refine (eD _ _ _ (o++[cy]) _ hln2 (Nat.le_refl _) (by omega) (Rw.of_blk hb2) hod2).mono ?_;rintro e w2 ⟨v,rfl,hnm,hnw,rfl⟩;rw[kL,HOL.out,HV.out]at hnm;go_wp2_with fail
  go_ret
  exact⟨_,rfl,hnm,(Q.gr hq1 hg1 (Nat.le_refl _)).setCell (Nat.le_refl _) _,hnw _ (Nw.at_ (Nat.le_refl _))⟩
theorem qP(x y:Value)(M N:Nat)(w:World)(hx:Nm w x M)(hy:Nm w y N)(hle:N≤M)(hM:dg W64 M≤LIM):
  Calls Tryz.prog 234 #[x,y] w (eQ (M-N) w):=by
 obtain⟨A,c,xs,rfl,hc,rx,wx,rfl⟩:=hx;obtain⟨B,d,ys,rfl,hd,ry,wy,rfl⟩:=hy;have hlen:=Wf.len_le (by decide) wx wy hle;rw[←wx.len aD]at hM;have hmk:=iH xs.length (xs.length:Int) rfl hM;rw[aC]at hM;have hq1:Q w (w.alloc (.cells (zs .u64 xs.length) 127)):=(Q.refl _).alloc _;go_enter Tryz.func234,Tryz.ntmps234
 go_wp2_with fail
 refine (aE1 _ A B xs.length xs.length xs.length c ys.length d w.heap.size 127 0 xs ys (List.replicate xs.length 0) _ (Blk.made _ _ _) rfl rfl hlen (by simp) (fun _=>rfl) (Nat.le_refl _) (Nat.le_refl _) hc hd (by omega)
  (Src.old rx hq1 (Nat.le_refl _)) (Src.old ry hq1 (Nat.le_refl _)) wx.1 wy.1).mono ?_
 rintro e w1 ⟨o,cy,rfl,hcy,hol,hod,hv,hb1,hg1⟩;have e1:(List.replicate xs.length 0).take 0++o++(List.replicate xs.length 0).drop (0+xs.length)=o:=by simp
 rw[e1]at hb1;have hfin:=aEe hod hol hle hv;have HF:=hZ hfin;have HOL:=hZ hol;clear hv hol hmk hfin;go_wp2_with fail
 refine (eD _ _ _ o _ HOL.out (Nat.le_refl _) (by omega) (Rw.of_blk hb1) hod).mono ?_;rintro e w2 ⟨v,rfl,hnm,hnw,rfl⟩;rw[HF.out]at hnm;go_wp2_with fail
 go_ret
 exact⟨_,rfl,hnm,Q.gr hq1 hg1 (Nat.le_refl _),hnw _ (Nw.at_ (Nat.le_refl _))⟩
theorem aKY{xs:List Nat}{n:Nat}(h:n<xs.length)(hz:Nz xs):Nz (xs.drop n):=by
 unfold Nz at*
 rw[List.getLast?_drop,if_neg (by omega)];exact hz
theorem vT(x:Value)(N n:Nat)(z:Int)(w:World)(hx:Nm w x N)(hz:z=(n:Int))(hN:dg W64 N≤LIM)(hn:n≤4611686018427387904):
  Calls Tryz.prog 232 #[x,.int .i64 z] w fun e w'=>∃u v,e=.returned (.tuple #[u,v])∧Nm w' u (N % W64^n)∧Nm w' v (N/W64^n)∧(∀B,Nw B x→Nw B u∧Nw B v)∧Q w w':=by
 subst hz;obtain⟨A,c,xs,rfl,hc,rx,wx,rfl⟩:=hx;rw[←wx.len aD,aC]at hN;by_cases hlt:xs.length≤n
 ·have h1:vl W64 xs<W64^n:=Nat.lt_of_lt_of_le (cK wx.1) (Nat.pow_le_pow_right (by decide) hlt);rw[Nat.mod_eq_of_lt h1,Nat.div_eq_of_lt h1];clear h1;go_enter Tryz.func232,Tryz.ntmps232
  go_wp2_with fail
  go_ret2
  exact⟨_,_,rfl,⟨A,c,xs,rfl,hc,rx,wx,rfl⟩,Nm.zero _ _,fun B hB=>⟨hB,Nw.nil⟩,Q.refl _⟩
 ·rw[←pG (by decide) (by omega) wx.1,←iW (by omega) wx.1];obtain⟨b,o,rfl,hb,_⟩:=rx.head (by omega);go_enter Tryz.func232,Tryz.ntmps232
  go_wp2_with fail
  have rt:=rx.take n;have rd:=rx.drop (k:=n) hc;rw[if_neg (by omega),Option.map_some,gL]at rd;have lt:(xs.take n).length=n:=(by rw[List.length_take];omega);have HLT:=hZ lt;clear lt;go_quiet ((go_at_call 289;refine Calls.quiet_of_same (v_trimmed' _ _ n _ (xs.take n) _ HLT.out (by omega) (by omega) rt (aR wx.1) rfl)))
  go_wp2_with fail
  go_ret2
  refine⟨_,_,rfl,rO rt HLT.out (by omega) (aR wx.1),⟨_,_,xs.drop n,by rw[List.length_drop];rfl,by rw[List.length_drop];omega,rd,⟨fE wx.1,aKY (by omega) wx.2⟩,rfl⟩,fun B hB=>?_,(Q.refl _).drewN _⟩;have hB0:=hB _ _ _ rfl;exact⟨aB8 (n:=n) (Nw.at_ hB0),Nw.at_ hB0⟩
theorem gG(x y:Value)(L H n:Nat)(z:Int)(w:World)(hx:Nm w x L)(hy:Nm w y H)(hz:z=(n:Int))(hL:dg W64 L+1≤LIM)(hH:n+dg W64 H+1≤LIM):
  Calls Tryz.prog 233 #[x,y,.int .i64 z] w (eQ (L+H*W64^n) w):=by
 subst hz;obtain⟨A,c,xs,rfl,hc,rx,wx,rfl⟩:=hx;by_cases h0:H=0
 ·subst h0;obtain⟨B,d,ys,rfl,hd,ry,wy,hys⟩:=hy;obtain rfl:=wy.2.zero (by decide) hys;rw[Nat.zero_mul,Nat.add_zero];simp only[List.length_nil];go_enter Tryz.func233,Tryz.ntmps233
  go_wp2_with fail
  refine (vS _ _ _ (⟨A,c,xs,rfl,hc,rx,wx,rfl⟩:Nm _ _ _) (by omega)).mono ?_;rintro e w1 ⟨v,rfl,hnm,hq,hnw⟩;go_wp2_with fail
  go_ret
  exact⟨_,rfl,hnm,hq,hnw⟩
 ·obtain⟨B,d,ys,rfl,hd,ry,wy,rfl⟩:=hy;rw[←wx.len aD]at hL;rw[←wy.len aD]at hH;have hy0:0<ys.length:=by
   rcases Nat.eq_zero_or_pos ys.length with e|e
   ·rw[List.eq_nil_of_length_eq_zero e]at h0;exact absurd rfl h0
   ·exact e
  have h02:((ys.length:Int) == 0)=false:=(by rw[beq_eq_false_iff_ne];omega);rw[aC]at hL hH;obtain⟨K,hK⟩:∃K:Nat,max (xs.length:Int) ((n:Int)+(ys.length:Int))=(K:Int):=⟨max xs.length (n+ys.length),by omega⟩
  have hK1:xs.length≤K:=(by omega);have hK2:n+ys.length≤K:=(by omega);have hmk:=iH (K+1) (max (xs.length:Int) ((n:Int)+(ys.length:Int))+1) (by omega) (by rw[aC];omega);have hK3:K+1≤1099511627776:=(by omega);have HK:=hZ hK;clear hK;have hb0:Blk .u64 (w.alloc (Obj.cells (zs .u64 (K+1)) 127)) w.heap.size 127 (List.replicate (K+1) 0):=Blk.made _ _ _;have hq0:Q w (w.alloc (Obj.cells (zs .u64 (K+1)) 127)):=(Q.refl _).alloc _;have rx1:=rx.q hq0;go_enter Tryz.func233,Tryz.ntmps233
  go_wp2_with (with_reducible refine eO rfl _ _ _ _ rfl 127 Tryz.underlying48 (by kernel_rfl) _ _ _ _ _ _ rfl rfl w.heap.size 0 127 (List.replicate (K+1) 0) xs xs.length hb0 rx1 rfl (by omega) (fun _=>rfl) (by simp;omega) ?_;intro w2 hb2 hg2)
  have e1:(List.replicate (K+1) 0).take 0++xs.take xs.length++(List.replicate (K+1) 0).drop (0+xs.length)=xs++List.replicate (K+1-xs.length) 0:=(by simp);rw[e1]at hb2;clear e1;have hq2:Q w w2:=Q.gr hq0 hg2 (Nat.le_refl _);obtain⟨cs,hcs⟩:∃cs,xs++List.replicate (K+1-xs.length) 0=cs:=⟨_,rfl⟩
  have hlc:cs.length=K+1:=(by rw[←hcs,List.length_append,List.length_replicate];omega);have hvc:vl W64 cs=vl W64 xs:=(by rw[←hcs,pY]);have hmc:∀d∈cs,d<W64:=(by rw[←hcs];exact uR (by decide) wx.1);have ldr:(cs.drop n).length=K+1-n:=(by rw[List.length_drop,hlc]);rw[hcs]at hb2;clear hcs;have so:Src w2 w.heap.size n (some ⟨w.heap.size,n,none⟩) (cs.drop n):=by
   have h:=Src.own (off:=n) (n:=K+1-n) hb2
   rwa [List.take_of_length_le (by omega)]at h
  have sy:=Src.old (g:=w.heap.size) (off:=n) ry hq2 (Nat.le_refl _);have HLC:=hZ hlc;have HVC:=hZ hvc;have LDR:=hZ ldr;have hnK:n+(K+1-n)≤cs.length:=(by omega);clear hlc hvc ldr rx1 hb0 hmk;have hKn:¬K+1=n:=(by omega);go_region_with (go_at_call 313;refine (rP (some ⟨w.heap.size,n,none⟩) _ B _ _ (K+1-n) _ ys.length d w.heap.size 127 n (cs.drop n) ys cs _ (by exact hb2) LDR.out rfl (by omega) hnK (fun _=>rfl) (by omega) (by omega) (by omega) hd (by omega) (by exact so) (by exact sy) (fE hmc) wy.1).mono ?_;rintro e w3 ⟨o,cy,rfl,hcy,hol,hod,hv,hb3,hg3⟩)
  all_goals
   have e2:cs.take n++o++cs.drop (n+(K+1-n))=cs.take n++o:=(by rw[List.drop_of_length_le (by rw[HLC.out];omega),List.append_nil]);rw[e2]at hb3;have hfin:=aJU (b:=W64) (cs:=cs) (o:=o) (by decide) HLC.out (by omega) HVC.out hv (Nat.lt_of_lt_of_le (cK wx.1) (Nat.pow_le_pow_right (by decide) hK1)) (aEh (by decide) (cK wy.1) hK2);have hl3:(cs.take n++o).length=K+1:=(by rw[List.length_append,List.length_take,HLC.out,hol];omega);have HFIN:=hZ hfin;have HL3:=hZ hl3;clear hfin hl3 hv hol e2;go_wp2_with fail
   refine (eD _ _ _ (cs.take n++o) _ HL3.out (Nat.le_refl _) (by omega) (Rw.of_blk hb3) (gQ (aR hmc) hod)).mono ?_;rintro e w4 ⟨v,rfl,hnm,hnw,rfl⟩;rw[HFIN.out,Nat.mul_comm]at hnm;go_wp2_with fail
   go_ret
   exact⟨_,rfl,hnm,Q.gr hq2.drew hg3 (Nat.le_refl _),hnw _ (Nw.at_ (Nat.le_refl _))⟩
theorem eG(x:Value)(N k:Nat)(z:Int)(w:World)(hx:Nm w x N)(hz:z=(k:Int))(hN:dg W64 N+k/64+1≤LIM)(hk:k≤4611686018427387904):
  Calls Tryz.prog 292 #[x,.int .i64 z] w (eQ (N*2^k) w):=by
 subst hz;obtain⟨A,c,xs,rfl,hc,rx,wx,rfl⟩:=hx;rw[←wx.len aD]at hN;by_cases h0:xs.length=0
 ·obtain rfl:xs=[]:=List.eq_nil_of_length_eq_zero h0;simp only[List.length_nil];rw[show vl W64 []*2^k=0 from Nat.zero_mul _];clear h0;go_enter Tryz.func292,Tryz.ntmps292
  go_wp2_with fail
  go_ret
  exact⟨_,rfl,Nm.zero _ _,Q.refl _,Nw.nil⟩
 ·have h02:((xs.length:Int) == 0)=false:=(by rw[beq_eq_false_iff_ne];omega);obtain⟨m,hm⟩:∃m:Nat,(k:Int)/64=(m:Int):=⟨k/64,by omega⟩
  obtain⟨p,hp⟩:∃p:Nat,(k:Int) % 64=(p:Int):=⟨k % 64,by omega⟩
  have hp64:p<64:=(by omega);obtain rfl:k/64=m:=(by omega);obtain rfl:k % 64=p:=(by omega);have hsplit:W64^(k/64)*2^(k % 64)=2^k:=aAa k;generalize k/64=m at*
  generalize k % 64=p at*
  have hmk:=iH (m+xs.length+1) ((m:Int)+(xs.length:Int)+1) (by omega) (by omega);have hmk:∀w,_:=hmk;rw[aC]at hN;have HSP:=hZ hsplit;clear hsplit;go_enter Tryz.func292,Tryz.ntmps292
  go_wp2_with fail
  have hq1:Q w ((w.alloc (.cells #[.int .u64 (p:Int)] 293)).alloc (.cells (zs .u64 (m+xs.length+1)) 127)):=((Q.refl _).alloc _).alloc _;have hb1:Blk .u64 ((w.alloc (.cells #[.int .u64 (p:Int)] 293)).alloc (.cells (zs .u64 (m+xs.length+1)) 127)) (w.heap.size+1) 127 (List.replicate (m+xs.length+1) 0):=by
   have h:=Blk.made (κ:=.u64) (w.alloc (.cells #[.int .u64 (p:Int)] 293)) 127 (m+xs.length+1)
   rwa [World.size_alloc]at h
  have hc0:((w.alloc (.cells #[.int .u64 (p:Int)] 293)).alloc (.cells (zs .u64 (m+xs.length+1)) 127)).cell? ⟨w.heap.size,0,none⟩=some (.int .u64 (p:Int)):=by
   rw[World.cell?_alloc_lt _ _ _ (by simp)];exact dW _ _ _
  generalize (w.alloc (.cells #[.int .u64 (p:Int)] 293)).alloc (.cells (zs .u64 (m+xs.length+1)) 127)=w1 at*
  have hbox:∀w2:World,w1.grownBy w2 (some (w.heap.size+1))→w2.cell? ⟨w.heap.size,0,none⟩=some (.int .u64 (p:Int)):=fun w2 hg=>by
   have hlt:=hb1.lt;rw[Gr.cell hg (p:=⟨w.heap.size,0,none⟩) (by simp only;omega) (fun e=>by simp only at e;omega)];exact hc0
  have sx1:Src w1 (w.heap.size+1) m A xs:=Src.old rx hq1 (by omega)
  refine (aCd (some ⟨w.heap.size+1,m,none⟩) A A _ _ xs.length c xs.length c (w.heap.size+1) 127 m 0 xs xs (List.replicate (m+xs.length+1) 0) _ (.pointer (some ⟨w.heap.size,0,none⟩)) (fun x _ c=>shL p x c) (·<2^p) (aA2 p hp64) (Nat.pow_pos (by decide))
   (fun x y c w2 hx _ hc hg=>aKW p x y c _ w2 hx hc hp64 (hbox w2 hg)) hb1 (by rw[List.length_replicate];omega) (fun _=>rfl) (by omega) hc hc (by omega) rfl rfl sx1 sx1 wx.1 wx.1).mono ?_
  rintro e w2 ⟨rfl,hb2,hg2⟩;have h1:=gP (b:=W64) (P:=(·<2^p)) (aA2 p hp64) (c:=0) rfl wx.1 wx.1 (Nat.pow_pos (by decide));have v1:=nM (b:=W64) (p:=2^p) (q:=0) (P:=(·<2^p)) (aA2 p hp64) (aJV p hp64) (c:=0) rfl wx.1 wx.1 (Nat.pow_pos (by decide));have l1:=aW (fun x _ c=>shL p x c) xs xs 0 rfl;have hpw:2^p≤2^63:=Nat.pow_le_pow_right (by decide) (by omega);generalize (aG (fun x _ c=>shL p x c) xs xs 0).1=o at*
  generalize (aG (fun x _ c=>shL p x c) xs xs 0).2=cy at*
  have hcy:cy<W64:=(by have:=h1.2;rw[bE];omega);have LO:=hZ l1;have V1:=hZ v1;clear v1 l1 hpw;have lb:(List.take m (List.replicate (m+xs.length+1) 0)++o++List.drop (m+xs.length) (List.replicate (m+xs.length+1) 0)).length=m+xs.length+1:=by
   rw[aV LO.out (by rw[List.length_replicate];omega),List.length_replicate]
  obtain⟨old,hold⟩:=hb2.ex (i:=m+xs.length) (by rw[lb];omega);have hfz:=hb2.frozen (m+xs.length);clear lb;go_wp2_with fail
  have hb3:=hb2.put (m+xs.length) cy (e:=(cy:Int)) rfl;rw[aEi LO.out]at hb3;have hod:∀d∈List.replicate m 0++(o++[cy]),d<W64:=by
   refine gQ (jI (by decide)) (gQ h1.1 ?_);intro d hd;simp at hd;subst hd;exact hcy
  have hlo:(List.replicate m 0++(o++[cy])).length=m+xs.length+1:=(by simp[LO.out];omega);have HV:=hZ (aHF (m:=m) (k:=2^k) LO.out (V1.out.trans (by rw[Nat.zero_mul];rfl)) HSP.out);refine (eD _ _ _ (List.replicate m 0++(o++[cy])) _ hlo (Nat.le_refl _) (by omega) (Rw.of_blk hb3) hod).mono ?_;rintro e w3 ⟨v,rfl,hnm,hnw,rfl⟩;rw[HV.out]at hnm;go_wp2_with fail
  go_ret
  exact⟨_,rfl,hnm,(Q.gr hq1 hg2 (by omega)).setCell (by simp) _,hnw _ (Nw.at_ (by omega))⟩
theorem Gr.of_drew{a b:World}{g:Nat}(h:a.drew.grownBy b (some g)):a.grownBy b (some g):=⟨h.os,h.tape,h.output,h.size,h.block⟩
theorem aCg(A1 A2:Option Addr)(bx:Addr)(c1 c2 n gz t p xt:Nat)(zl:List Nat)(w:World)(hp:p<64)(hxt:zl[n]? =some xt)(lz:zl.length=n+1)(mz:∀d∈zl,d<W64)(hb:Blk .u64 w gz t (List.replicate (n+1) 0))(hbx:w.cell? bx=some (.int .u64 (p:Int)))(hlt:bx.block<w.heap.size)(hne:bx.block≠gz)(hc1:n≤c1)(hc2:n≤c2)(hn:n≤1099511627776)(s1:Src w gz 0 A1 (zl.drop 1))(s2:Src w gz 0 A2 (zl.take n)):Calls Tryz.prog 350 #[.slice (some ⟨gz,0,none⟩) (n+1) (n+1),.slice A1 n c1,.slice A2 n c2,.int .u64 0,.func (.func 352) #[] #[.pointer (some bx)]] w
   fun e w'=>∃(o:List Nat) (v:Value),e=.returned v∧o++[xt/2^p]=iC p zl∧o.length=n∧Blk .u64 w' gz t (o++[0])∧w.grownBy w' (some gz):=by
 have l1:(zl.drop 1).length=n:=by rw[List.length_drop,lz];rfl
 have l2:(zl.take n).length=n:=by rw[List.length_take,lz];omega
 refine (aAC (some ⟨gz,0,none⟩) A1 A2 (n+1) (n+1) n c1 n c2 gz t 0 0 (zl.drop 1) (zl.take n) (List.replicate (n+1) 0) w (.pointer (some bx)) (fun x y _=>(shR p x y,0)) (fun _=>True) (aLC p hp) trivial
  (fun x y c w2 hx hy _ hg=>aIA p x y c bx w2 hx hy hp (by rw[Gr.cell hg hlt hne];exact hbx)) hb (by rw[List.length_replicate];omega) (fun _=>rfl) (by omega) hc1 hc2 hn l1 l2 s1 s2 (fE mz) (aR mz)).mono ?_
 rintro e w2 ⟨rfl,hb2,hg2⟩;have hrl:=aW (fun x y _=>(shR p x y,0)) (zl.drop 1) (zl.take n) 0 (by rw[l1,l2]);rw[l1]at hrl;obtain⟨hx1,rfl⟩:=List.getElem?_eq_some_iff.1 hxt;refine⟨_,_,rfl,aA4 p zl n lz,hrl,?_,hg2⟩;have e1:(List.replicate (n+1) (0:Nat)).take 0=[]:=rfl;have e2:(List.replicate (n+1) (0:Nat)).drop (0+n)=[0]:=by rw[List.drop_replicate,show n+1-(0+n)=1 by omega];rfl
 rw[e1,e2,List.nil_append]at hb2;exact hb2
theorem fM(x:Value)(N k:Nat)(z:Int)(w:World)(hx:Nm w x N)(hz:z=(k:Int))(hN:dg W64 N≤LIM)(hk:k≤4611686018427387904):
  Calls Tryz.prog 293 #[x,.int .i64 z] w (eQ (N/2^k) w):=by
 subst hz;obtain⟨A,c,xs,rfl,hc,rx,wx,rfl⟩:=hx;rw[←wx.len aD]at hN;obtain⟨m,hm⟩:∃m:Nat,(k:Int)/64=(m:Int):=⟨k/64,by omega⟩
 obtain⟨p,hp⟩:∃p:Nat,(k:Int) % 64=(p:Int):=⟨k % 64,by omega⟩
 have hp64:p<64:=by omega
 obtain rfl:k/64=m:=by omega
 obtain rfl:k % 64=p:=by omega
 have hsplit:W64^(k/64)*2^(k % 64)=2^k:=aAa k;have hmk:k/64≤k:=Nat.div_le_self _ _;generalize k/64=m at*
 generalize k % 64=p at*
 rw[←hsplit,←Nat.div_div_eq_div_mul];clear hsplit;by_cases h0:xs.length≤m
 ·rw[Nat.div_eq_of_lt (Nat.lt_of_lt_of_le (cK wx.1) (Nat.pow_le_pow_right (by decide) h0)),Nat.zero_div];rw[aC]at hN;go_enter Tryz.func293,Tryz.ntmps293
  go_wp2_with fail
  go_ret
  exact⟨_,rfl,Nm.zero _ _,(Q.refl _).alloc _,Nw.nil⟩
 ·obtain⟨n,hn⟩:∃n,xs.length=m+n+1:=⟨xs.length-m-1,by omega⟩
  rw[←pG (by decide) (by omega) wx.1];have rz:=rx.drop (k:=m) hc;rw[if_neg (by omega)]at rz;obtain⟨b,o,rfl,hb,hdummy⟩:=rx.head (by omega);rw[Option.map_some,gL]at rz;have lz:(xs.drop m).length=n+1:=(by rw[List.length_drop,hn];omega);have mz:=fE (n:=m) wx.1;rw[hn]at hN hc⊢;clear hdummy rx wx hn h0;generalize xs.drop m=zl at*
  have hmk2:=iH (n+1) ((n:Int)+1) (by omega) (by rw[aC]at hN⊢;omega);rw[aC]at hN;have hcn:¬m=c:=(by omega);have hmn:m+n+1-m=n+1:=(by omega);obtain⟨Z,hcc⟩:∃Z,c-m=Z:=⟨_,rfl⟩
  have hcn2:n+1≤Z:=(by omega);have hq1:Q w ((w.alloc (.cells #[.int .u64 (p:Int)] 293)).alloc (.cells (zs .u64 (n+1)) 127)):=((Q.refl _).alloc _).alloc _;have hb1:Blk .u64 ((w.alloc (.cells #[.int .u64 (p:Int)] 293)).alloc (.cells (zs .u64 (n+1)) 127)) (w.heap.size+1) 127 (List.replicate (n+1) 0):=by
   have h:=Blk.made (κ:=.u64) (w.alloc (.cells #[.int .u64 (p:Int)] 293)) 127 (n+1)
   rwa [World.size_alloc]at h
  have hc0:((w.alloc (.cells #[.int .u64 (p:Int)] 293)).alloc (.cells (zs .u64 (n+1)) 127)).cell? ⟨w.heap.size,0,none⟩=some (.int .u64 (p:Int)):=by
   rw[World.cell?_alloc_lt _ _ _ (by simp)];exact dW _ _ _
  have rd:=rz.drop (k:=1) (cap:=Z) (by omega);have rt:=rz.take n;obtain⟨_,_,hA,_,hct⟩:=rz.at_ (k:=n) (by omega);cases hA;have htop:zl[n]? =some (zl[n]'(by omega)):=List.getElem?_eq_getElem _;have LZ:=hZ lz;have hval:=aA3 hp64 mz;have hlt:=aDh hp64 mz;have htw:zl[n]'(by omega)<W64:=mz _ (List.getElem_mem _);have hsl:=wC p zl;rw[lz]at hsl;have HVAL:=hZ hval;have HSL:=hZ hsl;obtain⟨xt,hxt⟩:∃xt,zl[n]'(by omega)=xt:=⟨_,rfl⟩
  rw[hxt]at htop hct htw;have HTOP:=hZ htop;clear hxt;clear lz hval htop hsl;have hI1:(1:Int)≤(n:Int)+1:=(by omega);have hI2:(0:Int)≤(n:Int):=(by omega);have hI3:(n:Int)≤(Z:Int):=(by omega);have hI4:(n:Int)+1≤(Z:Int):=(by omega);by_cases hc1:Z=1
  case' pos=>
   rw[if_pos hc1]at rd;have hI5:(n:Int)≤1:=by omega
  case' neg=>
   rw[if_neg hc1,Option.map_some,gL]at rd
  all_goals
   go_enter Tryz.func293,Tryz.ntmps293
   go_wp2_with fail
   generalize (w.alloc (.cells #[.int .u64 (p:Int)] 293)).alloc (.cells (zs .u64 (n+1)) 127)=w1 at*
   have sd:Src w1 (w.heap.size+1) 0 _ (zl.drop 1):=Src.old rd hq1 (by omega);have st:Src w1 (w.heap.size+1) 0 _ (zl.take n):=Src.old rt hq1 (by omega);have hs1:w.heap.size<w1.heap.size:=(by have:=hb1.lt;omega);go_region_held3 (fun _=>True) (exact trivial) (first|fail|(go_at_call 350;refine (aCg _ _ ⟨w.heap.size,0,none⟩ _ _ n (w.heap.size+1) 127 p xt zl _ hp64 HTOP.out LZ.out mz (by exact hb1) (by exact hc0) (by exact hs1) (by exact Nat.ne_of_lt (Nat.lt_succ_self _)) (by omega) (by omega) (by omega) (by exact sd) (by exact st)).mono ?_;rintro e w2 ⟨o2,u,rfl,hrun,hol,hb2,hg2⟩))
  all_goals
   have hg2:=Gr.of_drew hg2;have hcx:w2.cell? ⟨b,o+m+n,none⟩=some (.int .u64 (xt:Int)):=by
    rw[Gr.cell hg2 (p:=⟨b,o+m+n,none⟩) (by have:=hq1.size;simp only;omega) (by simp only;omega)];exact (hq1.cell (p:=⟨b,o+m+n,none⟩) hb).trans hct
   have hbx:w2.cell? ⟨w.heap.size,0,none⟩=some (.int .u64 (p:Int)):=by
    rw[Gr.cell hg2 (p:=⟨w.heap.size,0,none⟩) (by simp only;omega) (by simp only;omega)];exact hc0
   obtain⟨old,hold⟩:=hb2.ex (i:=n) (by rw[List.length_append,hol];simp);have hfz:=hb2.frozen n;have HOL:=hZ hol;have HRUN:=hZ hrun;clear hol hrun;go_wp2_with fail
   go_region
   go_wp2_with fail
  all_goals
   have hb3:=hb2.put n (xt/2^p) (e:=(xt:Int)/2^p) (by rw[Int.natCast_ediv,Int.natCast_pow];rfl);have e3:(o2++[0]).set n (xt/2^p)=iC p zl:=by
    rw[←HRUN.out,List.set_append,if_neg (by rw[HOL.out];omega),HOL.out,Nat.sub_self];rfl
   rw[e3]at hb3;refine (eD _ _ _ (iC p zl) _ HSL.out (Nat.le_refl _) (by omega) (Rw.of_blk (w:=(w2.setCell _ _).drew) hb3) hlt).mono ?_;rintro e w3 ⟨v,rfl,hnm,hnw,rfl⟩;have hv:vl W64 (iC p zl)=vl W64 zl/2^p:=HVAL.out;rw[hv]at hnm;go_wp2_with fail
   go_ret
   exact⟨_,rfl,hnm,((Q.gr hq1 hg2 (by omega)).setCell (by simp) _).drew,hnw _ (Nw.at_ (by omega))⟩
def qQ(M N:Nat)(w:World)(e:Ending)(w':World):Prop:=∃u v,e=.returned (.tuple #[u,v])∧Nm w' u (M/N)∧Nm w' v (M % N)∧Q w w'∧Nw w.heap.size u
theorem Me.Rw.part{w:World}{g t off n:Nat}{cs:List Nat}(hb:Blk .u64 w g t cs):Rw w (some ⟨g,off,none⟩) ((cs.drop off).take n):=fun hn=>by
 obtain⟨b,o,h1,h2,_,h3⟩:=Src.own (off:=off) (n:=n) hb hn;exact⟨b,o,h1,h2,h3⟩
theorem Me.Blk.gr{κ:IntKind}{w w':World}{g k:Nat}{t:TypeId}{ds:List Nat}(h:Blk κ w g t ds)(hg:w.grownBy w' (some k))(hne:g≠k):Blk κ w' g t ds:=
 (Gr.heap hg h.lt hne).trans h
theorem Me.Blk.get{κ:IntKind}{w:World}{g i d:Nat}{t:TypeId}{ds:List Nat}(h:Blk κ w g t ds)(hd:ds[i]? =some d):w.cell? ⟨g,i,none⟩=some (.int κ (d:Int)):=by
 obtain⟨hi,rfl⟩:=List.getElem?_eq_some_iff.1 hd;exact h.cell hi
theorem aE2{W M N n l:Nat}(hW:1<W)(hn:dg W M=n)(hl:dg W N=l)(h2:1≤n)(hle:n≤l):N<M*W^(l+1-n)∧0<M:=by
 have h0:0<M:=by
  rcases Nat.eq_zero_or_pos M with h|h
  ·rw[h,aZ]at hn;omega
  ·exact h
 refine⟨?_,h0⟩;have h1:N<W^l:=by rw[←hl];exact aX hW N
 have h3:W^(n-1)≤M:=by
  rcases Nat.lt_or_ge M (W^(n-1)) with h|h
  ·have:=(aK hW M (n-1)).2 h;omega
  ·exact h
 have h4:W^(n-1)*W^(l+1-n)≤M*W^(l+1-n):=Nat.mul_le_mul_right _ h3;rw[←Nat.pow_add,show n-1+(l+1-n)=l by omega]at h4;omega
theorem aCh(x y:Value)(N M:Nat)(w:World)(hx:Nm w x N)(hy:Nm w y M)(h2:2≤dg W64 M)(hnorm:W64^dg W64 M≤2*M)(hle:dg W64 M≤dg W64 N)(hN:dg W64 N+1≤LIM):
  Calls Tryz.prog 347 #[x,y] w (qQ N M w):=by
 obtain⟨A,c,xs,rfl,hc,rx,wx,hvx⟩:=hx;obtain⟨B,d,ys,rfl,hd,ry,wy,hvy⟩:=hy;have hlx:=wx.len aD;have hly:=wy.len aD;rw[hvx]at hlx;rw[hvy]at hly;rw[←hlx]at hle hN;rw[←hly]at h2 hle hnorm;obtain⟨n,hn⟩:∃n,ys.length=n:=⟨_,rfl⟩
 obtain⟨J,hJ⟩:∃J,xs.length+1-n=J:=⟨_,rfl⟩
 obtain⟨l,hl⟩:∃l,xs.length=l:=⟨_,rfl⟩
 rw[hl]at hle hN hlx hJ hc⊢;rw[hn]at h2 hle hnorm hly hd⊢;have hmk1:=iH (l+1) ((l:Int)+1) (by omega) hN;rw[aC]at hN;have hmk2:=iH J (((l:Int)+1)-(n:Int)) (by omega) (by rw[aC];omega);have hb:Blk .u64 (w.alloc (.cells (zs .u64 (l+1)) 127)) w.heap.size 127 (List.replicate (l+1) 0):=Blk.made _ _ _;have rx1:Rw (w.alloc (.cells (zs .u64 (l+1)) 127)) A xs:=rx.q ((Q.refl _).alloc _);have HL:=hZ hl;have HN:=hZ hn;have HX:=hZ hvx;have HY:=hZ hvy;have HLX:=hZ hlx;have HLY:=hZ hly;have HNO:=hZ hnorm;clear hl hn hvx hvy hlx hly hnorm;go_enter Tryz.func347,Tryz.ntmps347
 go_wp2_with (with_reducible refine eO rfl _ _ _ _ rfl 127 Tryz.underlying48 (by kernel_rfl) _ _ _ _ _ _ rfl rfl w.heap.size 0 127 (List.replicate (l+1) 0) xs l hb rx1 HL.out (by omega) (fun _=>rfl) (by simp) ?_;intro w2 hb2 hg2)
 have e1:(List.replicate (l+1) 0).take 0++xs.take l++(List.replicate (l+1) 0).drop (0+l)=xs++[0]:=by
  rw[List.take_of_length_le (l:=xs) (by rw[HL.out];omega)];simp[List.drop_replicate]
 rw[e1]at hb2;clear e1 rx1 hb;have hq2:Q w w2:=Q.gr ((Q.refl _).alloc _) hg2 (Nat.le_refl _);have hgs:=hb2.lt;have hm0:∀d∈xs++[0],d<W64:=gQ wx.1 (by intro d hd;rw[List.mem_singleton.1 hd];decide);have hv0:vl W64 (xs++[0])=N:=by rw[kL,HX.out];omega
 obtain⟨hst,hM0⟩:=aE2 aD HLY.out.symm HLX.out.symm (by omega) hle;go_wp2_with fail
 go_loopw [9] (fun iv w1=>∃(j:Nat) (cs qs:List Nat),iv=.int .i64 ((j:Int)-1)∧j≤J∧cs.length=l+1∧qs.length=J∧(∀d∈cs,d<W64)∧(∀d∈qs,d<W64)∧
     cs.drop (j+n)=List.replicate (l+1-(j+n)) 0∧vl W64 cs<M*W64^j∧vl W64 (qs.drop j)*W64^j*M+vl W64 cs=N∧
     Blk .u64 w1 w.heap.size 127 cs∧Blk .u64 w1 w2.heap.size 127 qs∧Q w w1) (fun iv _=>(intOf iv+1).toNat)
 case atStart=>
  refine⟨J,xs++[0],List.replicate J 0,rfl,by omega,by rw[List.length_append,HL.out];rfl,by simp,hm0,jI (by decide),?_,?_,?_,hb2.alloc _,Blk.made _ _ _,hq2.alloc _⟩
  ·rw[List.drop_of_length_le (by rw[List.length_append,HL.out,List.length_singleton];omega),show l+1-(J+n)=0 by omega];rfl
  ·rw[hv0,←hJ];exact hst
  ·rw[List.drop_of_length_le (by simp),hv0];simp[vl]
 case round=>
  obtain⟨j,cs,qs,rfl,hj,lc,lq,hcs,hqs,hz,hlt,hX,hbc,hbq,hq⟩:=hrel;have LC:=hZ lc;have LQ:=hZ lq;have HZ:=hZ hz;have HLT:=hZ hlt;have HXX:=hZ hX;clear lc lq hz hlt hX;by_cases hj0:0<j
  ·obtain⟨i,rfl⟩:∃i,j=i+1:=⟨j-1,by omega⟩
   rw[show ((i+1:Nat):Int)-1=(i:Int) from by omega];have hin:i+n+1≤l+1:=(by omega);have hLC:=LC.out;have hpl:((cs.drop i).take (n+1)).length=n+1:=(by rw[List.length_take,List.length_drop,hLC];omega);have hPlt:=aJZ (b:=W64) (by decide) LC.out hin HZ.out HLT.out;have htop:=aHP (b:=W64) LC.out hin;have hpg:cs[i+n]? =some (cs[i+n]'(by omega)):=List.getElem?_eq_getElem _;have hpn:cs[i+n]'(by omega)<W64:=hcs _ (List.getElem_mem _);generalize cs[i+n]'(by omega)=pn at htop hpg hpn;have hMC:vl W64 ys<W64^n:=(by rw[←HN.out];exact cK wy.1);rw[HY.out]at hMC;obtain⟨q,hqd⟩:∃q,vl W64 ((cs.drop i).take (n+1))/M=q:=⟨_,rfl⟩
   obtain⟨r,hrd⟩:∃r,vl W64 ((cs.drop i).take (n+1)) % M=r:=⟨_,rfl⟩
   have HPL:=hZ hpl;have HPLT:=hZ hPlt;have HTOP:=hZ htop;have HPG:=hZ hpg;have HPN:=hZ hpn;have HMC:=hZ hMC;have HQD:=hZ hqd;have HRD:=hZ hrd;clear hpl hPlt htop hpg hpn hMC hqd hrd hLC;go_wp2_with fail
   refine (aC3 (some ⟨w.heap.size,i,none⟩) B n (i+n+1-i) (l+1-i) d ((cs.drop i).take (n+1)) ys _ (Rw.part hbc) (ry.q hq) (by rw[HPL.out];omega) HN.out (by omega) h2 (by omega)
    (aR (fE hcs)) wy.1 (by rw[HY.out];exact HPLT.out) (by rw[HY.out];exact HNO.out)).mono ?_
   rintro e w4 ⟨g,rfl,hg1,hg2',hgw,kk,rfl⟩;rw[HY.out,HQD.out]at hg1 hg2';have hbc4:=hbc.drewN kk;have hbq4:=hbq.drewN kk;have hq4:=hq.drewN kk;clear hbc hbq hq;generalize wr.drewN kk=w4 at*
   have HG:=hZ (And.intro hg1 hg2');have HGW:=hZ hgw;clear hg1 hg2' hgw;go_wp2_with fail
   refine (aC5 (some ⟨w.heap.size,i,none⟩) B n (l+1-i) n d w.heap.size 127 i g ys cs _ hbc4 HN.out (by rw[LC.out];omega) (fun _=>rfl) (by omega) hd (by omega) (Src.old ry hq4 (Nat.le_refl _)) wy.1 hcs HGW.out).mono ?_;rintro e w5 ⟨o,bo,rfl,hbo,lo,ho,hv,hb5,hg5⟩;have hbq5:=hbq4.gr hg5 (by omega);have hq5:=Q.gr hq4 hg5 (Nat.le_refl _);rw[HY.out]at hv;have hstep:=aFL HMC.out HTOP.out HQD.out HRD.out HG.out.1 HG.out.2 hM0 hv (by rw[←lo];exact cK ho);have hget:(cs.take i++o++cs.drop (i+n))[i+n]? =some pn:=(by rw[qY lo (by rw[LC.out];omega) (by omega)];exact HPG.out);have hlen5:(cs.take i++o++cs.drop (i+n)).length=l+1:=(by rw[aV lo (by rw[LC.out];omega)];exact LC.out);have hcell:=hb5.get hget;have hst5:=aCT lo (show i+n≤cs.length by rw[LC.out];omega);have hse:=qC lo LC.out hin HZ.out;have hcs5:∀d∈cs.take i++o++cs.drop (i+n),d<W64:=gQ (gQ (aR hcs) ho) (fE hcs);have LO:=hZ lo;have HLEN:=hZ hlen5;have HST:=hZ hst5;have HSE:=hZ hse;have HV:=hZ hv;have HSTEP:=hZ hstep;clear lo hget hlen5 hst5 hse hv hstep hbq4 hq4 hbc4 hg5;obtain⟨oq,hcq⟩:=hbq5.ex (i:=i) (by rw[LQ.out];omega);have hfq:=hbq5.frozen i;have hfl:=hb5.frozen (i+n);rcases Nat.lt_or_ge pn bo with hlt|hge
   ·have hlt':(pn:Int)<(bo:Int):=(by omega);have hs2:=HSTEP.out.2 hlt;have hgq:(g:Int)-1=(q:Int):=(by omega);have hqw:IntKind.u64.wrap (q:Int)=(q:Int):=aP (by have:=HGW.out;rw[bE]at this;omega);have HS2:=hZ hs2;clear hs2 hlt;have so:Src w5 w.heap.size i (some ⟨w.heap.size,i,none⟩) o:=by
     have h:=Src.own (off:=i) (n:=n) hb5
     rwa [HST.out.2.2]at h
    have sy:=Src.old (g:=w.heap.size) (off:=i) ry hq5 (Nat.le_refl _);have hcap:(n:Int)≤((l+1-i:Nat):Int):=(by omega);have hcap2:n≤l+1-i:=(by omega);go_wp2_with fail
    go_region_held3 (fun _=>True) (exact trivial) (first|fail|(go_at_call 313;refine (rP (some ⟨w.heap.size,i,none⟩) (some ⟨w.heap.size,i,none⟩) B n (l+1-i) n (l+1-i) n d w.heap.size 127 i o ys (cs.take i++o++cs.drop (i+n)) _ (by exact hb5) LO.out HN.out (Nat.le_refl _) (by rw[HLEN.out];omega) (fun _=>rfl) (Nat.le_refl _) (by omega) (by omega) hd (by omega) (by exact so) (by exact sy) ho wy.1).mono ?_;rintro e w6 ⟨o2,c2,rfl,hc2,lo2,ho2,hv2,hb6,hg6⟩))
    all_goals
     rw[HST.out.1,HST.out.2.1]at hb6;have hg6':w5.grownBy w6 (some w.heap.size):=Gr.of_drew hg6;have hbq6:=hbq5.gr hg6' (by omega);have hq6:=Q.gr hq5 hg6' (Nat.le_refl _);obtain⟨c1,hc1⟩:=HS2.out.2;have hor:vl W64 o2=r:=by
      have hv2':=hv2;rw[HY.out]at hv2';exact aHG hc1 hv2'.symm (by rw[←HRD.out];exact Nat.lt_trans (Nat.mod_lt _ hM0) HMC.out) (by rw[←lo2];exact cK ho2)
     have hnx:=aAg (qs:=qs) (by decide) hM0 LC.out hin HZ.out hcs HXX.out (by rw[LQ.out];omega) lo2 ho2 (by rw[hor];exact HRD.out.symm) HQD.out;have hl6:(cs.take i++o2++cs.drop (i+n)).length=l+1:=(by rw[aV lo2 (by rw[LC.out];omega)];exact LC.out);obtain⟨pn6,hcell6⟩:=hb6.ex (i:=i+n) (by rw[hl6];omega);have hfl6:=hb6.frozen (i+n);obtain⟨oq6,hcq6⟩:=hbq6.ex (i:=i) (by rw[LQ.out];omega);have hfq6:=hbq6.frozen i;have hqlt:q<W64:=(by have h1:=HS2.out.1;have h2:=HGW.out;omega);have hse6:=qC lo2 LC.out hin HZ.out;have HNX:=hZ hnx;have HSE6:=hZ hse6;have HQL:=hZ hqlt;clear hnx hse6 hqlt hor hl6 hv2 lo2 hc1 hcell hcq hfq hfl;go_wp2_with fail
     have hb7:=hb6.put (i+n) 0 (e:=0) rfl;rw[HSE6.out]at hb7;have hnx:=HNX.out
     refine⟨⟨i,_,qs.set i q,rfl,by omega,hnx.1,by rw[List.length_set,LQ.out],hnx.2.2.1,aDe hqs HQL.out,hnx.2.1,hnx.2.2.2.1,hnx.2.2.2.2,
      hb7.far (by simp only;omega) _,(hbq6.far (by simp only;omega) _).set_ i q,(hq6.setCell (Nat.le_refl _) _).setCell (by simp only;omega) _⟩,by simp[intOf]⟩
   ·have hge':¬(pn:Int)<(bo:Int):=(by omega);go_wp2_with fail
    obtain⟨hgq,hor⟩:=HSTEP.out.1 hge;have hnx:=aAg (qs:=qs) (by decide) hM0 LC.out hin HZ.out hcs HXX.out (by rw[LQ.out];omega) LO.out ho (by rw[hor];exact HRD.out.symm) HQD.out;have hb6:=hb5.put (i+n) 0 (e:=0) rfl;rw[HSE.out]at hb6;have hqw:q<W64:=(by rw[←hgq];exact HGW.out);rw[←hgq]at hnx hqw
    refine⟨⟨i,_,qs.set i g,rfl,by omega,hnx.1,by rw[List.length_set,LQ.out],hnx.2.2.1,aDe hqs hqw,hnx.2.1,hnx.2.2.2.1,hnx.2.2.2.2,
     hb6.far (by simp only;omega) _,(hbq5.far (by simp only;omega) _).set_ i g,(hq5.setCell (Nat.le_refl _) _).setCell (by simp only;omega) _⟩,by simp[intOf]⟩
  ·obtain rfl:j=0:=(by omega);rw[show ((0:Nat):Int)-1=-1 from by omega];go_wp2_with fail
   have hfin:=pX (M:=N) (N:=M) (Qt:=vl W64 qs) (R:=vl W64 cs) (by rw[←HXX.out];simp) (by have:=HLT.out;simpa using this);refine (eD _ J J qs _ LQ.out (Nat.le_refl _) (by omega) (Rw.of_blk hbq) hqs).mono ?_;rintro e w5 ⟨u,rfl,hu,hnu,rfl⟩;go_wp2_with fail
   refine (eD _ (l+1) (l+1) cs _ LC.out (Nat.le_refl _) (by omega) (Rw.of_blk hbc) hcs).mono ?_;rintro e w6 ⟨v,rfl,hv,hnv,rfl⟩;go_wp2_with fail
   go_ret2
   exact⟨u,v,rfl,by rw[hfin.1];exact hu,by rw[hfin.2];exact hv,hq,hnu _ (Nw.at_ (by omega))⟩
theorem aAD(x y:Value)(M N:Nat)(w:World)(hx:Nm w x M)(hy:Nm w y N)(h:dg W64 M+dg W64 N≤LIM):
  Calls Tryz.prog 231 #[x,y] w (eQ (M*N) w):=by
 obtain⟨A,c,xs,rfl,hc,rx,wx,rfl⟩:=hx;obtain⟨B,d,ys,rfl,hd,ry,wy,rfl⟩:=hy;rw[←wx.len aD,←wy.len aD]at h;have hmk:=iH (xs.length+ys.length) ((xs.length:Int)+(ys.length:Int)) (by omega) h;rw[aC]at h;obtain⟨ny,hny⟩:∃ny,ys.length=ny:=⟨_,rfl⟩
 rw[hny]at h hmk⊢;have HNY:=hZ hny;go_enter Tryz.func231,Tryz.ntmps231
 go_wp2_with fail
 go_loopw [16] (fun iv w1=>∃(i:Nat) (cs:List Nat),i≤ny∧iv=.int .i64 (i:Int)∧cs.length=xs.length+ny∧(∀d∈cs,d<W64)∧
  cs.drop (xs.length+i)=List.replicate (ny-i) 0∧vl W64 cs=vl W64 xs*vl W64 (ys.take i)∧Blk .u64 w1 w.heap.size 127 cs∧Q w w1) (fun iv _=>ny-(intOf iv).toNat)
 case atStart=>
  refine⟨0,List.replicate (xs.length+ny) 0,by omega,rfl,by simp,jI (by decide),by simp,by rw[kM];simp[vl],Blk.made _ _ _,(Q.refl _).alloc _⟩
 case round=>
  obtain⟨i,cs,hi,rfl,hlc,hm,hdz,hv,hb,hq⟩:=hrel;by_cases hlt:i<ny
  ·have hiy:i<ys.length:=(by rw[HNY.out];exact hlt);obtain⟨b,o,rfl,hbk,hcy⟩:=(ry.q hq).at_ hiy;have hyw:ys[i]<W64:=wy.1 _ (List.getElem_mem _);have hvt:=fH W64 hiy;generalize ys[i]=y0 at*
   have HV:=hZ hv;have HVT:=hZ hvt;have HLC:=hZ hlc;have hI1:(i:Int)≤(xs.length:Int)+(ny:Int):=(by omega);have hci:¬xs.length+ny=i∨xs.length+ny=i:=(by omega);have hoff:i+xs.length≤cs.length:=(by omega);clear hv hvt hmk hlc hny;go_wp2_with fail
   have sx:Src wr w.heap.size i A xs:=Src.old rx hq (Nat.le_refl _);refine (aC4 (some ⟨w.heap.size,i,none⟩) A _ _ xs.length c w.heap.size 127 i y0 xs cs _ hb rfl hoff (fun _=>rfl) (by omega) hc (by omega) sx wx.1 hm hyw).mono ?_;rintro e w2 ⟨o2,c2,rfl,hc2,hol,hod,hv2,hb2,hg2⟩;obtain⟨cs',hcs',hl',hz',hvl',hform⟩:=aJW (c:=c2) HLC.out hlt hol hdz hv2 HV.out;have hm':∀d∈cs',d<W64:=by
    rw[hform];refine gQ (gQ (aR hm) (gQ hod ?_)) (jI (by decide));intro d hd;simp at hd;subst hd;exact hc2
   have hlb:(cs.take i++o2++cs.drop (i+xs.length)).length=xs.length+ny:=(by rw[aV hol hoff,HLC.out]);obtain⟨old,hold⟩:=hb2.ex (i:=xs.length+i) (by rw[hlb];omega);have hfz:=hb2.frozen (xs.length+i);have HCS:=hZ hcs';have HL:=hZ hl';have HVL:=hZ hvl';clear hv2 hol hlb hcs' hl' hvl' hform;go_wp2_with fail
   have hb3:=hb2.put (xs.length+i) c2 (e:=(c2:Int)) rfl;rw[HCS.out]at hb3;exact⟨⟨i+1,cs',by omega,congrArg (Value.int _) (by omega),HL.out,hm',hz',by rw[HVL.out,HVT.out,Nat.mul_add,Nat.mul_comm y0,Nat.mul_left_comm],hb3,(Q.gr hq hg2 (Nat.le_refl _)).setCell (Nat.le_refl _) _⟩,by simp[intOf];omega⟩
  ·obtain rfl:i=ny:=(by omega);have HV:=hZ hv;clear hv hmk;go_wp2_with fail
   refine (eD _ _ _ cs _ hlc (Nat.le_refl _) (by omega) (Rw.of_blk hb) hm).mono ?_;rintro e w3 ⟨v,rfl,hnm,hnw,rfl⟩;rw[HV.out,List.take_of_length_le (by rw[HNY.out];omega)]at hnm;go_wp2_with fail
   go_ret
   exact⟨_,rfl,hnm,hq,hnw _ (Nw.at_ (Nat.le_refl _))⟩
theorem aCi(s:Nat)(ih:∀(M N:Nat) (x y:Value) (w:World),dg W64 M+dg W64 N<s→Nm w x M→Nm w y N→dg W64 M+dg W64 N+8≤LIM→Calls Tryz.prog 154 #[x,y] w (eQ (M*N) w))
  (M N:Nat) (x y:Value) (w:World) (hs:dg W64 M+dg W64 N≤s) (hx:Nm w x M) (hy:Nm w y N) (h:dg W64 M+dg W64 N+8≤LIM):Calls Tryz.prog 154 #[x,y] w (eQ (M*N) w):=by
 have hlen:dg W64 N≤dg W64 M∨dg W64 M<dg W64 N:=by omega
 obtain⟨A,c,rfl,hc⟩:=hx.parts;obtain⟨B,d,rfl,hd⟩:=hy.parts;rw[aC]at h;rcases hlen with hlen|hlen
 case' inr=>rw[Nat.mul_comm]
 all_goals
  have h1:=bO (N:=N) aD;have h2:=bO (N:=M) aD;generalize hm:dg W64 M=m at*
  generalize hn:dg W64 N=n at*
 case' inl=>
  have hX:=hx;have hY:=hy;have hY0:=h1;have hlx:=hm;have hly:=hn;clear hx hy h1 h2 hm hn;generalize M=X at*;generalize N=Y at*;generalize m=lx at*;generalize n=ly at*
 case' inr=>
  have hX:=hy;have hY:=hx;have hY0:=h2;have hlx:=hn;have hly:=hm;clear hx hy h1 h2 hm hn;generalize N=X at*;generalize M=Y at*;generalize n=lx at*;generalize m=ly at*
 all_goals
  have HM:=hZ hlx;have HN:=hZ hly;by_cases h0:ly=0
  ·rw[hY0 h0,Nat.mul_zero];subst h0;clear hs ih hX hY hlx hly;go_enter Tryz.func154,Tryz.ntmps154
   go_wp2_with fail
   go_ret
   exact⟨_,rfl,Nm.zero _ _,Q.refl _,Nw.nil⟩
  ·have h02:((ly:Int) == 0)=false:=(by rw[beq_eq_false_iff_ne];omega);by_cases hsm:ly<40
   ·clear hs ih hlx hly;go_enter Tryz.func154,Tryz.ntmps154
    go_wp2_with fail
    refine (aAD _ _ X Y _ hX hY (by rw[HM.out,HN.out,aC];omega)).mono ?_;rintro e w1 ⟨v,rfl,hnm,hq,hnw⟩;go_wp2_with fail
    go_ret
    exact⟨_,rfl,hnm,hq,hnw⟩
   ·obtain⟨hf,hhf⟩:∃hf:Nat,((lx:Int)+1)/2=(hf:Int):=⟨(lx+1)/2,by omega⟩
    have hh1:lx≤2*hf:=(by omega);have hh2:2*hf≤lx+1:=(by omega);have s1:dg W64 (X % W64^hf)≤hf:=aA5 aD;have s2:dg W64 (X/W64^hf)≤lx-hf:=(by rw[←hlx];exact qA aD);have s3:dg W64 (Y % W64^hf)≤hf:=aA5 aD;have s4:dg W64 (Y/W64^hf)≤ly-hf:=(by rw[←hly];exact qA aD);have ex:X % W64^hf+X/W64^hf*W64^hf=X:=(by rw[Nat.mul_comm];exact Nat.mod_add_div _ _);have ey:Y % W64^hf+Y/W64^hf*W64^hf=Y:=(by rw[Nat.mul_comm];exact Nat.mod_add_div _ _);have EX:=hZ ex;have EY:=hZ ey;clear ex ey;by_cases hle:ly≤hf
    ·have t1:=gK aD (X % W64^hf) Y;have t2:=gK aD (X/W64^hf) Y;rw[hly]at t1 t2;clear hlx hly;go_enter Tryz.func154,Tryz.ntmps154
     go_wp2_with fail
     refine (vT _ X hf _ _ hX rfl (by rw[HM.out,aC];omega) (by omega)).mono ?_;rintro e w1 ⟨x0,x1,rfl,hx0,hx1,_,hq1⟩;have hY1:=hY.q hq1;generalize X % W64^hf=a0 at*
     generalize X/W64^hf=a1 at*
     go_wp2_with fail
     refine (ih a0 Y _ _ _ (by rw[HN.out];omega) hx0 hY1 (by rw[HN.out,aC];omega)).mono ?_;rintro e w2 ⟨v1,rfl,hv1,hq2,hn1⟩;go_wp2_with fail
     refine (ih a1 Y _ _ _ (by rw[HN.out];omega) (hx1.q hq2) (hY1.q hq2) (by rw[HN.out,aC];omega)).mono ?_;rintro e w3 ⟨v2,rfl,hv2,hq3,hn2⟩;go_wp2_with fail
     refine (gG _ _ (a0*Y) (a1*Y) hf _ _ (hv1.q hq3) hv2 rfl (by rw[aC];omega) (by rw[aC];omega)).mono ?_;rintro e w4 ⟨v3,rfl,hv3,hq4,hn3⟩;have e3:a0*Y+a1*Y*W64^hf=X*Y:=by
      conv=>rhs;rw[←EX.out,Nat.add_mul,Nat.mul_right_comm]
     rw[e3]at hv3;go_wp2_with fail
     go_ret
     exact⟨_,rfl,hv3,((hq1.trans hq2).trans hq3).trans hq4,hn3.more (((hq1.trans hq2).trans hq3).size)⟩
    ·have u1:=gK aD (X % W64^hf) (Y % W64^hf);have u2:=gK aD (X/W64^hf) (Y/W64^hf);have u3:=sO aD (X % W64^hf) (X/W64^hf);have u4:=sO aD (Y % W64^hf) (Y/W64^hf);have u5:=gK aD (X % W64^hf+X/W64^hf) (Y % W64^hf+Y/W64^hf);have hk:=aJX (x0:=X % W64^hf) (x1:=X/W64^hf) (y0:=Y % W64^hf) (y1:=Y/W64^hf);have HK:=hZ hk;clear hlx hly hk;go_enter Tryz.func154,Tryz.ntmps154
     go_wp2_with fail
     refine (vT _ X hf _ _ hX rfl (by rw[HM.out,aC];omega) (by omega)).mono ?_;rintro e w1 ⟨x0,x1,rfl,hx0,hx1,_,hq1⟩;have hY1:=hY.q hq1;go_wp2_with fail
     refine (vT _ Y hf _ _ hY1 rfl (by rw[HN.out,aC];omega) (by omega)).mono ?_;rintro e w2 ⟨y0,y1,rfl,hy0,hy1,_,hq2⟩;have hx0:=hx0.q hq2;have hx1:=hx1.q hq2;generalize X % W64^hf=a0 at*
     generalize X/W64^hf=a1 at*
     generalize Y % W64^hf=b0 at*
     generalize Y/W64^hf=b1 at*
     go_wp2_with fail
     refine (ih a0 b0 _ _ _ (by omega) hx0 hy0 (by rw[aC];omega)).mono ?_;rintro e w3 ⟨lo,rfl,hlo,hq3,_⟩;have hx0:=hx0.q hq3;have hx1:=hx1.q hq3;have hy0:=hy0.q hq3;have hy1:=hy1.q hq3;go_wp2_with fail
     refine (ih a1 b1 _ _ _ (by omega) hx1 hy1 (by rw[aC];omega)).mono ?_;rintro e w4 ⟨hi,rfl,hhi,hq4,_⟩;have hx0:=hx0.q hq4;have hx1:=hx1.q hq4;have hy0:=hy0.q hq4;have hy1:=hy1.q hq4;have hlo:=hlo.q hq4;go_wp2_with fail
     refine (aCf _ _ a0 a1 _ hx0 hx1 (by rw[aC];omega) (by rw[aC];omega)).mono ?_;rintro e w5 ⟨pa,rfl,hpa,hq5,_⟩;have hy0:=hy0.q hq5;have hy1:=hy1.q hq5;have hlo:=hlo.q hq5;have hhi:=hhi.q hq5;go_wp2_with fail
     refine (aCf _ _ b0 b1 _ hy0 hy1 (by rw[aC];omega) (by rw[aC];omega)).mono ?_;rintro e w6 ⟨pb,rfl,hpb,hq6,_⟩;have hlo:=hlo.q hq6;have hhi:=hhi.q hq6;have hpa:=hpa.q hq6;go_wp2_with fail
     refine (ih (a0+a1) (b0+b1) _ _ _ (by omega) hpa hpb (by rw[aC];omega)).mono ?_;rintro e w7 ⟨pm,rfl,hpm,hq7,_⟩;have hlo:=hlo.q hq7;have hhi:=hhi.q hq7;go_wp2_with fail
     refine (qP _ _ ((a0+a1)*(b0+b1)) (a0*b0) _ hpm hlo HK.out.1 (by rw[aC];omega)).mono ?_;rintro e w8 ⟨m1,rfl,hm1,hq8,_⟩;have hlo:=hlo.q hq8;have hhi:=hhi.q hq8;have z1:dg W64 ((a0+a1)*(b0+b1)-a0*b0)≤dg W64 ((a0+a1)*(b0+b1)):=aFD aD;have z2:dg W64 ((a0+a1)*(b0+b1)-a0*b0-a1*b1)≤dg W64 ((a0+a1)*(b0+b1)-a0*b0):=aFD aD;go_wp2_with fail
     refine (qP _ _ ((a0+a1)*(b0+b1)-a0*b0) (a1*b1) _ hm1 hhi HK.out.2 (by rw[aC];omega)).mono ?_;rintro e w9 ⟨m2,rfl,hm2,hq9,_⟩;have hlo:=hlo.q hq9;have hhi:=hhi.q hq9;go_wp2_with fail
     refine (gG _ _ (a0*b0) (a1*b1) (2*hf) _ _ hlo hhi (by omega) (by rw[aC];omega) (by rw[aC];omega)).mono ?_;rintro e w10 ⟨j1,rfl,hj1,hq10,_⟩;have hm2:=hm2.q hq10;have z3:=sO aD (a0*b0) (a1*b1*W64^(2*hf));have z4:dg W64 (a1*b1*W64^(2*hf))≤dg W64 (a1*b1)+2*hf:=mO aD;go_wp2_with fail
     refine (gG _ _ (a0*b0+a1*b1*W64^(2*hf)) _ hf _ _ hj1 hm2 rfl (by rw[aC];omega) (by rw[aC];omega)).mono ?_;rintro e w11 ⟨j2,rfl,hj2,hq11,hn2⟩;have e3:a0*b0+a1*b1*W64^(2*hf)+((a0+a1)*(b0+b1)-a0*b0-a1*b1)*W64^hf=X*Y:=by
      conv=>rhs;rw[←EX.out,←EY.out,aO4,←Nat.pow_add,←Nat.two_mul]
     rw[e3]at hj2;have hq:=((((((((hq1.trans hq2).trans hq3).trans hq4).trans hq5).trans hq6).trans hq7).trans hq8).trans hq9).trans hq10;go_wp2_with fail
     go_ret
     exact⟨_,rfl,hj2,hq.trans hq11,hn2.more hq.size⟩
theorem kY(M N:Nat)(x y:Value)(w:World)(hx:Nm w x M)(hy:Nm w y N)(h:dg W64 M+dg W64 N+8≤LIM):Calls Tryz.prog 154 #[x,y] w (eQ (M*N) w):=by
 have key:∀(s M N:Nat) (x y:Value) (w:World),dg W64 M+dg W64 N<s→Nm w x M→Nm w y N→dg W64 M+dg W64 N+8≤LIM→Calls Tryz.prog 154 #[x,y] w (eQ (M*N) w):=by
  intro s
  induction s with
  |zero=>intro M N x y w hs;omega
  |succ s ih=>intro M N x y w hs hx hy h;exact aCi s ih M N x y w (by omega) hx hy h
 exact key _ M N x y w (Nat.lt_succ_self _) hx hy h
theorem aMX{b L H n m:Nat}(hb:1<b)(hL:L<b^n)(hH:dg b H≤m):dg b (L+H*b^n)≤n+m:=by
 rw[aK hb];have h1:=(aK hb H m).1 hH;have h2:(H+1)*b^n≤b^m*b^n:=Nat.mul_le_mul_right _ h1;rw[Nat.add_mul,Nat.one_mul,←Nat.pow_add,Nat.add_comm m n]at h2;omega
theorem jO{b M N:Nat}(hb:1<b):dg b (N/M)≤dg b N:=bK hb (Nat.div_le_self _ _)
theorem zQ{b M N:Nat}(hb:1<b)(hM:0<M):dg b (N % M)≤dg b M:=bK hb (Nat.le_of_lt (Nat.mod_lt _ hM))
theorem dg_rest'{b M N:Nat}(hb:1<b):dg b (N % M)≤dg b N:=bK hb (Nat.mod_le _ _)
theorem oP{b M:Nat}(h:1≤dg b M):0<M:=by
 rcases Nat.eq_zero_or_pos M with h1|h1
 ·rw[h1,aZ]at h;omega
 ·exact h1
def yN(s:Nat):Prop:=∀(N M:Nat) (x y:Value) (w:World),dg W64 N<s→Nm w x N→Nm w y M→2≤dg W64 M→W64^dg W64 M≤2*M→4*(dg W64 N+dg W64 M)+40≤LIM→
 Calls Tryz.prog 291 #[x,y] w (qQ N M w)
theorem aID(s:Nat)(ih:yN s)(N M n:Nat)(z:Int)(x y:Value)(w:World)(hs:dg W64 N≤s)(hx:Nm w x N)(hy:Nm w y M)(h2:2≤dg W64 M)(hnorm:W64^dg W64 M≤2*M)(hB:4*(dg W64 N+dg W64 M)+40≤LIM)(hz:z=(n:Int))(hn0:0<n)(hnN:dg W64 M+n<dg W64 N):
  Calls Tryz.prog 348 #[x,y,.int .i64 z] w (qQ N M w):=by
 subst hz;rw[aC]at hB;have hM0:0<M:=oP (b:=W64) (by omega);have hp:0<W64^n:=Nat.pow_pos (by decide);have a1:dg W64 (N/W64^n)≤dg W64 N-n:=qA aD;have a2:dg W64 (N % W64^n)≤n:=aA5 aD;have a3:dg W64 (N/W64^n % M)≤dg W64 M:=zQ aD hM0;have a4:dg W64 (N % W64^n+N/W64^n % M*W64^n)≤n+dg W64 M:=aMX aD (Nat.mod_lt _ hp) a3;have a5:dg W64 (N/W64^n/M)≤dg W64 (N/W64^n):=jO aD;have a6:dg W64 ((N % W64^n+N/W64^n % M*W64^n)/M)≤dg W64 (N % W64^n+N/W64^n % M*W64^n):=jO aD;have key:=aHH (x:=N) (y:=M) (p:=W64^n) hM0 rfl rfl rfl rfl hp;have HK:=hZ key;have HNO:=hZ hnorm;clear key hnorm;go_enter Tryz.func348,Tryz.ntmps348
 go_wp2_with fail
 refine (vT _ N n _ _ hx rfl (by rw[aC];omega) (by omega)).mono ?_;rintro e w1 ⟨lo,hi,rfl,hlo,hhi,_,hq1⟩;have hy1:=hy.q hq1;go_wp2_with fail
 refine (ih _ M _ _ _ (by omega) hhi hy1 h2 HNO.out (by rw[aC];omega)).mono ?_;rintro e w2 ⟨q1,r1,rfl,hq1v,hr1v,hq2,hn1⟩;go_wp2_with fail
 refine (gG _ _ _ _ n _ _ (hlo.q hq2) hr1v rfl (by rw[aC];omega) (by rw[aC];omega)).mono ?_;rintro e w3 ⟨j,rfl,hj,hq3,hnj⟩;go_wp2_with fail
 refine (ih _ M _ _ _ (by omega) hj ((hy1.q hq2).q hq3) h2 HNO.out (by rw[aC];omega)).mono ?_;rintro e w4 ⟨q0,r0,rfl,hq0v,hr0v,hq4,hn0'⟩;go_wp2_with fail
 refine (gG _ _ _ _ n _ _ hq0v ((hq1v.q hq3).q hq4) rfl (by rw[aC];omega) (by rw[aC];omega)).mono ?_;rintro e w5 ⟨j2,rfl,hj2,hq5,hnj2⟩;obtain⟨k1,k2,k3⟩:=HK.out;rw[k1]at hj2;have hr:=hr0v.q hq5;rw[k2]at hr;have hq:=((hq1.trans hq2).trans hq3).trans hq4;go_wp2_with fail
 go_ret2
 exact⟨_,_,rfl,hj2,hr,hq.trans hq5,hnj2.more hq.size⟩
theorem aGR(s:Nat)(ih:yN s)(N M n p:Nat)(z:Int)(x vh vl_ vy:Value)(an ah al ay:Addr)(w:World)(hx:Nm w x N)(hz:z=(p:Int))(cn:w.cell? an=some (.int .i64 (n:Int)))(ch:w.cell? ah=some vh)(cl:w.cell? al=some vl_)(cy:w.cell? ay=some vy)(bn:an.block<w.heap.size)(bh:ah.block<w.heap.size)(bl_:al.block<w.heap.size)(by_:ay.block<w.heap.size)(hvh:Nm w vh (M/W64^n))(hvl:Nm w vl_ (M % W64^n))(hvy:Nm w vy M)(hs:dg W64 (N/W64^(p+n))<s)(h2:2≤dg W64 (M/W64^n))(hnorm:W64^dg W64 (M/W64^n)≤2*(M/W64^n))(hB:4*(dg W64 N+dg W64 M)+40≤LIM)(hnM:n≤dg W64 M)(hpn':p≤n):
  Calls Tryz.prog 398 #[x,.int .i64 z,.pointer (some an),.pointer (some ah),.pointer (some al),.pointer (some ay)] w (qQ N (M*W64^p) w):=by
 subst hz;rw[aC]at hB;have hp:0<W64^p:=Nat.pow_pos (by decide);have hpn:0<W64^(p+n):=Nat.pow_pos (by decide);have hyh:0<M/W64^n:=oP (b:=W64) (by omega);have a1:dg W64 (N/W64^(p+n))≤dg W64 N:=jO aD;have a2:dg W64 (N % W64^(p+n))≤dg W64 N:=dg_rest' aD;have a0:dg W64 (M/W64^n)≤dg W64 M:=jO aD;have a3:dg W64 (N/W64^(p+n) % (M/W64^n))≤dg W64 (M/W64^n):=zQ aD hyh;have a4:dg W64 (N/W64^(p+n)/(M/W64^n))≤dg W64 (N/W64^(p+n)):=jO aD;have a5:dg W64 (M % W64^n)≤dg W64 M:=dg_rest' aD;have a6:=gK aD (N/W64^(p+n)/(M/W64^n)) (M % W64^n);have eM:M=M % W64^n+M/W64^n*W64^n:=by rw[Nat.mul_comm];exact (Nat.mod_add_div _ _).symm
 have eN:N=N % W64^(p+n)+(N/W64^(p+n)/(M/W64^n)*(M/W64^n)+N/W64^(p+n) % (M/W64^n))*(W64^p*W64^n):=by
  have h1:=Nat.div_add_mod (N/W64^(p+n)) (M/W64^n);rw[Nat.mul_comm]at h1;rw[h1,←Nat.pow_add,Nat.mul_comm];exact (Nat.mod_add_div _ _).symm
 have hlo:=Nat.mod_lt N hpn;have hr0:=Nat.mod_lt (N/W64^(p+n)) hyh;have cellQ:∀{w1:World} {a:Addr},Q w w1→a.block<w.heap.size→w1.cell? a=w.cell? a:=fun h1 h2=>h1.cell h2;obtain⟨H,hH⟩:∃H,N/W64^(p+n)=H:=⟨_,rfl⟩
 obtain⟨L,hL⟩:∃L,N % W64^(p+n)=L:=⟨_,rfl⟩
 obtain⟨Yh,hYh⟩:∃Yh,M/W64^n=Yh:=⟨_,rfl⟩
 obtain⟨Yl,hYl⟩:∃Yl,M % W64^n=Yl:=⟨_,rfl⟩
 rw[hH,hL,hYh]at eN;rw[hH]at a1 hs;rw[hL]at a2 hlo;rw[hYh]at a0 h2 hnorm hvh hyh;rw[hYl]at a5 hvl;rw[hYh,hYl]at eM;rw[hH,hYh]at a3 a4 hr0;rw[hH,hYh,hYl]at a6;obtain⟨q0,hq0⟩:∃q0,H/Yh=q0:=⟨_,rfl⟩
 obtain⟨r0,hr0'⟩:∃r0,H % Yh=r0:=⟨_,rfl⟩
 rw[hq0,hr0']at eN;rw[hr0']at a3 hr0;rw[hq0]at a4 a6;have hM0:0<M:=by
  rw[eM];have:=Nat.mul_pos hyh (show 0<W64^n from Nat.pow_pos (by decide));omega
 have hMp:0<M*W64^p:=Nat.mul_pos hM0 hp;have a7:dg W64 (q0*Yl*W64^p)≤dg W64 (q0*Yl)+p:=mO aD;have a8:dg W64 (M*W64^p)≤dg W64 M+p:=mO aD;have a9:=sO aD (q0*Yl*W64^p) (M*W64^p);have rbound:∀r,r<q0*Yl*W64^p+M*W64^p→dg W64 r≤dg W64 (q0*Yl*W64^p+M*W64^p):=fun r h=>bK aD (Nat.le_of_lt h);have hst:L+r0*W64^(p+n)<q0*Yl*W64^p+M*W64^p:=by
  have h1:(r0+1)*W64^(p+n)≤Yh*W64^(p+n):=Nat.mul_le_mul_right _ hr0;rw[Nat.add_mul,Nat.one_mul]at h1;have h3:Yh*W64^(p+n)≤M*W64^p:=by
   rw[eM,Nat.pow_add,Nat.add_mul,Nat.mul_comm (W64^p),←Nat.mul_assoc];omega
  omega
 have eN':N=L+(q0*Yh+r0)*(W64^p*W64^n):=eN;have HD:=hZ (And.intro eM eN');have HNO:=hZ hnorm;have HPN:Hid (W64^(p+n)=W64^p*W64^n):=hZ (Nat.pow_add _ _ _);have HH:=hZ (And.intro hH (And.intro hL (And.intro hq0 hr0')));clear eM eN eN' hnorm hH hL hYh hYl hq0 hr0' hlo hr0 hyh hpn hp;go_enter Tryz.func398,Tryz.ntmps398
 go_wp2_with fail
 refine (vT _ N (p+n) _ _ hx (by omega) (by rw[aC];omega) (by omega)).mono ?_;rintro e w1 ⟨lo,hi,rfl,hlo,hhi,_,hq1⟩;rw[HH.out.2.1]at hlo;rw[HH.out.1]at hhi;have cn1:=(cellQ hq1 bn).trans cn;have ch1:=(cellQ hq1 bh).trans ch;go_wp2_with fail
 refine (ih H Yh _ _ _ hs hhi (hvh.q hq1) h2 HNO.out (by rw[aC];omega)).mono ?_;rintro e w2 ⟨qv,rv,rfl,hqv,hrv,hq2',hnq⟩;rw[HH.out.2.2.1]at hqv;rw[HH.out.2.2.2]at hrv;have hq2:=hq1.trans hq2';have cn2:=(cellQ hq2 bn).trans cn;go_wp2_with fail
 refine (gG _ _ L r0 (p+n) _ _ (hlo.q hq2') hrv (by omega) (by rw[aC];omega) (by rw[aC];omega)).mono ?_;rintro e w3 ⟨rv3,rfl,hrv3,hq3',-⟩;have hq3:=hq2.trans hq3';have cl3:=(cellQ hq3 bl_).trans cl;have hqv3:=hqv.q hq3';have hnq3:Nw w.heap.size qv:=hnq.more hq1.size;go_wp2_with fail
 refine (kY q0 Yl _ _ _ hqv3 (hvl.q hq3) (by rw[aC];omega)).mono ?_;rintro e w4 ⟨tv,rfl,htv,hq4',-⟩;go_wp2_with fail
 refine (gG _ _ 0 (q0*Yl) p _ _ (Nm.zero _ _) htv rfl (by rw[aZ,aC];omega) (by rw[aC];omega)).mono ?_;rintro e w5 ⟨tk,rfl,htk,hq5',-⟩;rw[Nat.zero_add]at htk;have hq5:=(hq3.trans hq4').trans hq5';have hqv5:=(hqv3.q hq4').q hq5';have hrv5:=(hrv3.q hq4').q hq5';clear hlo hhi hqv hrv hqv3 hrv3 htv hq1 hq2' hq2 hq3' hq3 hq4' hq5' cn1 ch1 cn2 cl3 hnq;go_wp2_with fail
 go_loopg [8,9] q0 (fun gk qv rv w1=>gk≤q0∧Nm w1 qv gk∧Nw w.heap.size qv∧Nm w1 rv (L+r0*W64^(p+n)+(q0-gk)*(M*W64^p))∧L+r0*W64^(p+n)+(q0-gk)*(M*W64^p)<q0*Yl*W64^p+M*W64^p∧Q w w1∧Nm w1 tk (q0*Yl*W64^p))
 case atStart=>exact⟨Nat.le_refl _,hqv5,hnq3,by rw[Nat.sub_self,Nat.zero_mul];exact hrv5,by rw[Nat.sub_self,Nat.zero_mul];exact hst,hq5,htk⟩
 case round=>
  obtain⟨w0,hw0⟩:∃w0:World,w0=wr:=⟨_,rfl⟩
  obtain⟨hgk,hqv,hnq,hrv,hrl,hq,htk⟩:=hrel;have hrb:=rbound _ hrl;obtain⟨R,hR⟩:∃R,L+r0*W64^(p+n)+(q0-gk)*(M*W64^p)=R:=⟨_,rfl⟩
  rw[hR]at hrv hrl hrb;have HR:=hZ hR;clear hR;rcases Nat.lt_or_ge R (q0*Yl*W64^p) with hlt|hge
  ·have hcmp:=hZ (jR hlt);have hstop:=aFM (x:=N) (y:=M) (p:=W64^p) (n:=W64^n) (k:=q0-gk) HD.out.1 HD.out.2 (by omega) (by rw[←HPN.out,HR.out];exact hlt);have hg0:0<gk:=(by omega);have hnext:R+M*W64^p=L+r0*W64^(p+n)+(q0-(gk-1))*(M*W64^p):=by
    rw[←HR.out,show q0-(gk-1)=(q0-gk)+1 by omega,Nat.add_mul _ 1,Nat.one_mul,Nat.add_assoc]
   have HNX:=hZ hnext;clear hnext;have hrl2:R+M*W64^p<q0*Yl*W64^p+M*W64^p:=(by omega);have hgd:dg W64 gk≤dg W64 q0:=bK aD hgk;have cy0:=(cellQ hq by_).trans cy;go_wp2_with fail
   refine (bM _ _ R (q0*Yl*W64^p) _ hrv htk (by rw[aC];omega) (by rw[aC];omega)).mono ?_;rintro e w6 ⟨rfl,hq6'⟩;rw[hcmp.out];have hq6:=hq.trans hq6';go_wp2_with fail
   refine (fC 1 1 _ rfl (by decide)).mono ?_;rintro e w7 ⟨ov,rfl,hov,hq7',-⟩;have hq7:=hq6.trans hq7';go_wp2_with fail
   refine (qP _ _ gk 1 _ ((hqv.q hq6').q hq7') hov hg0 (by rw[aC];omega)).mono ?_;rintro e w8 ⟨qv8,rfl,hqv8,hq8',hnq8⟩;have hq8:=hq7.trans hq8';have cy8:=(cellQ hq8 by_).trans cy;go_wp2_with fail
   refine (gG _ _ R M p _ _ (((hrv.q hq6').q hq7').q hq8') (hvy.q hq8) rfl (by rw[aC];omega) (by rw[aC];omega)).mono ?_;rintro e w9 ⟨rv9,rfl,hrv9,hq9',-⟩;go_wp2_with fail
   go_roundg (gk-1)
   case measure=>omega
   case rel=>
    rw[HNX.out]at hrv9 hrl2;exact⟨by omega,hqv8.q hq9',hnq8.more hq7.size,hrv9,hrl2,hq8.trans hq9',(((htk.q hq6').q hq7').q hq8').q hq9'⟩
  ·have hcmp:cmp R (q0*Yl*W64^p)=0∨cmp R (q0*Yl*W64^p)=1:=by
    rcases Nat.eq_or_lt_of_le hge with h|h
    ·left;rw[←h];exact cmp_eq _
    ·right;exact jS h
   have hfin:=aHI (x:=N) (y:=M) (p:=W64^p) (n:=W64^n) (lo:=L) (r:=r0) (k:=q0-gk) (q:=q0) HD.out.1 HD.out.2 (by omega) (by rw[←HPN.out,HR.out];exact hge) (by rw[←HPN.out,HR.out];exact hrl);rw[←HPN.out,HR.out,show q0-(q0-gk)=gk by omega]at hfin;have HF:=hZ hfin;clear hfin;have HG:=hZ hge;clear hge;rcases hcmp with hcmp|hcmp;all_goals
    replace hcmp:=hZ hcmp;go_wp2_with fail
    refine (bM _ _ R (q0*Yl*W64^p) _ hrv htk (by rw[aC];omega) (by rw[aC];omega)).mono ?_;rintro e w6 ⟨rfl,hq6'⟩;rw[hcmp.out];have hq6:=hq.trans hq6';go_wp2_with fail
    refine (qP _ _ R (q0*Yl*W64^p) _ (hrv.q hq6') (htk.q hq6') HG.out (by rw[aC];omega)).mono ?_;rintro e w8 ⟨rv8,rfl,hrv8,hq8',-⟩;go_wp2_with fail
    go_ret2
    exact⟨_,_,rfl,by rw[HF.out.1];exact (hqv.q hq6').q hq8',by rw[HF.out.2];exact hrv8,hq6.trans hq8',hnq⟩
theorem Me.Nm.form{w:World}{v:Value}{N:Nat}(h:Nm w v N):∃A k c,v=.slice A k c:=by
 obtain⟨A,c,ws,rfl,_⟩:=h;exact⟨_,_,_,rfl⟩
theorem aGS{M n m:Nat}(hm:dg W64 M=m)(hn:n<m)(h:W64^m≤2*M):dg W64 (M/W64^n)=m-n∧W64^(m-n)≤2*(M/W64^n):=by
 have hp:0<W64^n:=Nat.pow_pos (by decide);obtain⟨k,rfl⟩:∃k,m=n+(k+1):=⟨m-n-1,by omega⟩
 have e:n+(k+1)-n=k+1:=by omega
 rw[e];have hlow:W64^(k+1)≤2*(M/W64^n):=by
  have e2:W64^(k+1)=2*(9223372036854775808*W64^k):=(by rw[Nat.pow_succ,bE];omega);rw[e2];refine Nat.mul_le_mul_left 2 ?_;rw[Nat.le_div_iff_mul_le hp];rw[Nat.pow_add,e2]at h;have h2:2*(9223372036854775808*W64^k*W64^n)≤2*M:=by
   refine Nat.le_trans (Nat.le_of_eq ?_) h;rw[Nat.mul_comm (W64^n),Nat.mul_assoc 2]
  omega
 refine⟨?_,hlow⟩;have h1:=(aK aD M _).1 (Nat.le_of_eq hm);have h3:dg W64 (M/W64^n)≤k+1:=by
  rw[aK aD,Nat.div_lt_iff_lt_mul hp,←Nat.pow_add,Nat.add_comm];exact h1
 have h4:¬dg W64 (M/W64^n)≤k:=by
  rw[aK aD];intro h5;rw[Nat.pow_succ]at hlow;have h6:2*W64^k≤W64^k*W64:=(by rw[Nat.mul_comm];exact Nat.mul_le_mul_left _ (by decide));omega
 omega
theorem aE3(s:Nat)(ih:yN s)(N M n:Nat)(z:Int)(x y:Value)(w:World)(hs:dg W64 N≤s)(hx:Nm w x N)(hy:Nm w y M)(h2:n+2≤dg W64 M)(hnorm:W64^dg W64 M≤2*M)(hB:4*(dg W64 N+dg W64 M)+40≤LIM)(hz:z=(n:Int))(hn0:0<n)(hnN:dg W64 M<dg W64 N):
  Calls Tryz.prog 349 #[x,y,.int .i64 z] w (qQ N M w):=by
 subst hz;have hM0:0<M:=oP (b:=W64) (by omega);have hp:0<W64^n:=Nat.pow_pos (by decide);obtain⟨m1,m2⟩:=aGS rfl (show n<dg W64 M by omega) hnorm;rw[←m1]at m2;have a1:dg W64 (N/W64^(n+n))≤dg W64 N-(n+n):=qA aD;have a2:dg W64 (N % (M*W64^n))≤dg W64 (M*W64^n):=zQ aD (Nat.mul_pos hM0 hp);have a3:dg W64 (M*W64^n)≤dg W64 M+n:=mO aD;have a4:dg W64 (N % (M*W64^n)/W64^(0+n))≤dg W64 (N % (M*W64^n))-(0+n):=qA aD;have a5:dg W64 (N/(M*W64^n))≤dg W64 N-n:=by
  have:=qA (b:=W64) (N:=N/M) (n:=n) aD;rw[Nat.div_div_eq_div_mul]at this;have h3:dg W64 (N/M)≤dg W64 N:=jO aD;omega
 have a6:dg W64 (N % (M*W64^n)/M)≤dg W64 (N % (M*W64^n)):=jO aD;have key:=aEk (x:=N) (y:=M) (p:=W64^n) hM0 hp rfl rfl rfl rfl;have hBM:dg W64 M≤LIM:=by omega
 have hB3:=hB;have hB2:4*(dg W64 (N % (M*W64^n))+dg W64 M)+40≤LIM:=by
  have h3:dg W64 (N % (M*W64^n))≤dg W64 N:=dg_rest' aD;omega
 have HK:=hZ key;have HM2:=hZ m2;have HB2:=hZ hB2;have HB3:=hZ hB3;have HM1:=hZ m1;clear key hnorm m2 hB2 hB3 m1;rw[aC]at hB hBM;obtain⟨B,yk,yc,rfl⟩:=hy.form;have hq0:Q w ((w.alloc (.cells #[.slice B yk yc] 49)).alloc (.cells #[.int .i64 (n:Int)] 3)):=((Q.refl _).alloc _).alloc _;have c4:((w.alloc (.cells #[.slice B yk yc] 49)).alloc (.cells #[.int .i64 (n:Int)] 3)).cell? ⟨w.heap.size,0,none⟩=some (.slice B yk yc):=by
  rw[World.cell?_alloc_lt _ _ _ (by simp)];exact dW _ _ _
 have c5:((w.alloc (.cells #[.slice B yk yc] 49)).alloc (.cells #[.int .i64 (n:Int)] 3)).cell? ⟨w.heap.size+1,0,none⟩=some (.int .i64 (n:Int)):=by
  have h:=dW (w.alloc (.cells #[.slice B yk yc] 49)) (.int .i64 (n:Int)) 3
  rwa [World.size_alloc]at h
 have hz0:((w.alloc (.cells #[.slice B yk yc] 49)).alloc (.cells #[.int .i64 (n:Int)] 3)).heap.size=w.heap.size+2:=by simp
 go_enter Tryz.func349,Tryz.ntmps349
 go_wp2_with fail
 generalize (w.alloc (.cells #[.slice B yk yc] 49)).alloc (.cells #[.int .i64 (n:Int)] 3)=w0 at*
 refine (vT _ M n _ _ (hy.q hq0) rfl (by rw[aC];omega) (by omega)).mono ?_;rintro e w1 ⟨lo,hi,rfl,hlo,hhi,_,hq1⟩;obtain⟨A1,k1,c1,rfl⟩:=hlo.form;obtain⟨A2,k2,c2,rfl⟩:=hhi.form;have hsz:w.heap.size+2≤w1.heap.size:=by have:=hq1.size;omega
 have c41:=(hq1.cell (p:=⟨w.heap.size,0,none⟩) (by simp only;omega)).trans c4;have c51:=(hq1.cell (p:=⟨w.heap.size+1,0,none⟩) (by simp only;omega)).trans c5;clear c4 c5 hz0;have hq2:Q w1 ((w1.alloc (.cells #[.slice A1 k1 c1] 49)).alloc (.cells #[.slice A2 k2 c2] 49)):=((Q.refl _).alloc _).alloc _;have c8:((w1.alloc (.cells #[.slice A1 k1 c1] 49)).alloc (.cells #[.slice A2 k2 c2] 49)).cell? ⟨w1.heap.size,0,none⟩=some (.slice A1 k1 c1):=by
  rw[World.cell?_alloc_lt _ _ _ (by simp)];exact dW _ _ _
 have c9:((w1.alloc (.cells #[.slice A1 k1 c1] 49)).alloc (.cells #[.slice A2 k2 c2] 49)).cell? ⟨w1.heap.size+1,0,none⟩=some (.slice A2 k2 c2):=by
  have h:=dW (w1.alloc (.cells #[.slice A1 k1 c1] 49)) (.slice A2 k2 c2) 49
  rwa [World.size_alloc]at h
 have hz2:((w1.alloc (.cells #[.slice A1 k1 c1] 49)).alloc (.cells #[.slice A2 k2 c2] 49)).heap.size=w1.heap.size+2:=by simp
 have c42:=(hq2.cell (p:=⟨w.heap.size,0,none⟩) (by simp only;omega)).trans c41;have c52:=(hq2.cell (p:=⟨w.heap.size+1,0,none⟩) (by simp only;omega)).trans c51;go_upto_region 3 with (fail)
 generalize (w1.alloc (.cells #[.slice A1 k1 c1] 49)).alloc (.cells #[.slice A2 k2 c2] 49)=w2 at*
 have hx2:=(hx.q hq0).q (hq1.trans hq2);have hy2:=(hy.q hq0).q (hq1.trans hq2);have hlo2:=hlo.q hq2;have hhi2:=hhi.q hq2;have hq02:=hq0.trans (hq1.trans hq2);clear c41 c51 hlo hhi hx;go_wp2_with fail
 refine (aGR s ih N M n n _ x (.slice A2 k2 c2) (.slice A1 k1 c1) (.slice B yk yc) ⟨w.heap.size+1,0,none⟩ ⟨w1.heap.size+1,0,none⟩ ⟨w1.heap.size,0,none⟩ ⟨w.heap.size,0,none⟩ _ hx2 rfl c52 c9 c8 c42
  (by simp only;omega) (by simp only;omega) (by simp only;omega) (by simp only;omega) hhi2 hlo2 hy2 (by omega) (by rw[HM1.out];omega) HM2.out HB3.out (by omega) (Nat.le_refl _)).mono ?_
 rintro e w3 ⟨q1,r1,rfl,hq1v,hr1v,hq3,hn1⟩;have c43:=(hq3.cell (p:=⟨w.heap.size,0,none⟩) (by simp only;omega)).trans c42;have c53:=(hq3.cell (p:=⟨w.heap.size+1,0,none⟩) (by simp only;omega)).trans c52;have c83:=(hq3.cell (p:=⟨w1.heap.size,0,none⟩) (by simp only;omega)).trans c8;have c93:=(hq3.cell (p:=⟨w1.heap.size+1,0,none⟩) (by simp only;omega)).trans c9;have hz3:=hq3.size;go_wp2_with fail
 refine (aGR s ih (N % (M*W64^n)) M n 0 _ r1 (.slice A2 k2 c2) (.slice A1 k1 c1) (.slice B yk yc) ⟨w.heap.size+1,0,none⟩ ⟨w1.heap.size+1,0,none⟩ ⟨w1.heap.size,0,none⟩ ⟨w.heap.size,0,none⟩ _ hr1v rfl c53 c93 c83 c43
  (by simp only;omega) (by simp only;omega) (by simp only;omega) (by simp only;omega) (hhi2.q hq3) (hlo2.q hq3) (hy2.q hq3) (by omega) (by rw[HM1.out];omega) HM2.out HB2.out (by omega) (by omega)).mono ?_
 rintro e w4 ⟨q0,r0,rfl,hq0v,hr0v,hq4,hn0'⟩;rw[Nat.pow_zero,Nat.mul_one]at hq0v hr0v;have c54:=(hq4.cell (p:=⟨w.heap.size+1,0,none⟩) (by simp only;omega)).trans c53;go_wp2_with fail
 refine (gG _ _ _ _ n _ _ hq0v (hq1v.q hq4) rfl (by rw[aC];omega) (by rw[aC];omega)).mono ?_;rintro e w5 ⟨j2,rfl,hj2,hq5,hnj2⟩;obtain⟨g1,g2,g3⟩:=HK.out;rw[g1]at hj2;have hr:=hr0v.q hq5;rw[g2]at hr;have hq:=(hq02.trans hq3).trans hq4;go_wp2_with fail
 go_ret2
 exact⟨_,_,rfl,hj2,hr,hq.trans hq5,hnj2.more hq.size⟩
theorem aMY:∀s,yN s:=by
 intro s
 induction s with
 |zero=>intro N M x y w h;omega
 |succ s ih=>
  intro N M x y w hs hx hy h2 hnorm hB;have hM0:0<M:=oP (b:=W64) (by omega);obtain⟨A,c,rfl,hc⟩:=hx.parts;obtain⟨B,d,rfl,hd⟩:=hy.parts;have hB':=hB;rw[aC]at hB';obtain⟨lx,hlx⟩:∃lx,dg W64 N=lx:=⟨_,rfl⟩
  obtain⟨ly,hly⟩:∃ly,dg W64 M=ly:=⟨_,rfl⟩
  have hlt80:∀w1:World,Q w w1→Nm w1 (.slice A lx c) N∧Nm w1 (.slice B ly d) M:=fun w1 h=>by
    rw[←hlx,←hly];exact⟨hx.q h,hy.q h⟩
  have HLX:=hZ hlx;have HLY:=hZ hly;have HNO:=hZ hnorm;have HB:=hZ hB;rw[hlx,hly]at hB';rw[hlx]at hs hc⊢;rw[hly]at h2 hd⊢;clear hlx hly hnorm hB hx hy;rcases Nat.lt_or_ge N M with hlt|hge
  ·have hcmp:=hZ (jR hlt);have hres:N/M=0∧N % M=N:=⟨Nat.div_eq_of_lt hlt,Nat.mod_eq_of_lt hlt⟩
   have HRES:=hZ hres;clear hres hlt;go_enter Tryz.func291,Tryz.ntmps291
   go_wp2_with fail
   refine (bM _ _ N M _ (hlt80 _ (Q.refl _)).1 (hlt80 _ (Q.refl _)).2 (by rw[HLX.out,aC];omega) (by rw[HLY.out,aC];omega)).mono ?_;rintro e w1 ⟨rfl,hq1⟩;rw[hcmp.out];go_wp2_with fail
   go_ret2
   exact⟨_,_,rfl,by rw[HRES.out.1];exact Nm.zero _ _,by rw[HRES.out.2];exact (hlt80 _ hq1).1,hq1,Nw.nil⟩
  ·have hmono:ly≤lx:=(by rw[←HLX.out,←HLY.out];exact bK aD hge);have hcmp:∃z:Int,cmp N M=z∧0≤z:=by
     rcases Nat.eq_or_lt_of_le hge with h|h
     ·exact⟨0,by rw[h];exact cmp_eq _,by omega⟩
     ·exact⟨1,jS h,by omega⟩
   obtain⟨z,hz,hz0⟩:=hcmp;have hz1:¬z<0:=(by omega);have hcmp:=hZ hz;clear hz hge;have hcases:(lx-ly<80∨¬lx-ly<80∧ly<80)∨(¬lx-ly<80∧¬ly<80∧ly<lx-ly)∨(¬lx-ly<80∧¬ly<80∧¬ly<lx-ly):=(by omega);obtain⟨mo,hmo⟩:∃mo,lx-ly=mo:=⟨_,rfl⟩
   have hmoi:(lx:Int)-(ly:Int)=(mo:Int):=(by omega);rw[hmo]at hcases;clear hz0;rcases hcases with hlong|⟨h1,h3,h4⟩|⟨h1,h3,h4⟩
   ·rcases hlong with h1|⟨h1,h3⟩
    all_goals
      go_enter Tryz.func291,Tryz.ntmps291
      go_wp2_with fail
      refine (bM _ _ N M _ (hlt80 _ (Q.refl _)).1 (hlt80 _ (Q.refl _)).2 (by rw[HLX.out,aC];omega) (by rw[HLY.out,aC];omega)).mono ?_;rintro e w1 ⟨rfl,hq1⟩;rw[hcmp.out];go_wp2_with fail
      refine (aCh _ _ N M _ (hlt80 _ hq1).1 (hlt80 _ hq1).2 (by rw[HLY.out];exact h2) HNO.out (by rw[HLX.out,HLY.out];exact hmono) (by rw[HLX.out,aC];omega)).mono ?_;rintro e w2 ⟨u,v,rfl,hu,hv,hq2,hnu⟩;go_wp2_with fail
      go_ret2
      exact⟨u,v,rfl,hu,hv,hq1.trans hq2,hnu.more hq1.size⟩
   ·go_enter Tryz.func291,Tryz.ntmps291
    go_wp2_with fail
    refine (bM _ _ N M _ (hlt80 _ (Q.refl _)).1 (hlt80 _ (Q.refl _)).2 (by rw[HLX.out,aC];omega) (by rw[HLY.out,aC];omega)).mono ?_;rintro e w1 ⟨rfl,hq1⟩;rw[hcmp.out];go_wp2_with fail
    refine (aID s ih N M (mo/2) _ _ _ _ (by rw[HLX.out];omega) (hlt80 _ hq1).1 (hlt80 _ hq1).2 (by rw[HLY.out];exact h2) HNO.out HB.out (by omega) (by omega) (by rw[HLX.out,HLY.out];omega)).mono ?_;rintro e w2 ⟨u,v,rfl,hu,hv,hq2,hnu⟩;go_wp2_with fail
    go_ret2
    exact⟨u,v,rfl,hu,hv,hq1.trans hq2,hnu.more hq1.size⟩
   ·go_enter Tryz.func291,Tryz.ntmps291
    go_wp2_with fail
    refine (bM _ _ N M _ (hlt80 _ (Q.refl _)).1 (hlt80 _ (Q.refl _)).2 (by rw[HLX.out,aC];omega) (by rw[HLY.out,aC];omega)).mono ?_;rintro e w1 ⟨rfl,hq1⟩;rw[hcmp.out];go_wp2_with fail
    refine (aE3 s ih N M (mo/2) _ _ _ _ (by rw[HLX.out];omega) (hlt80 _ hq1).1 (hlt80 _ hq1).2 (by rw[HLY.out];omega) HNO.out HB.out (by omega) (by omega) (by rw[HLX.out,HLY.out];omega)).mono ?_;rintro e w2 ⟨u,v,rfl,hu,hv,hq2,hnu⟩;go_wp2_with fail
    go_ret2
    exact⟨u,v,rfl,hu,hv,hq1.trans hq2,hnu.more hq1.size⟩
end
end Go.Proofs.YtamnpcdkcdfgaaaGreatDoor
