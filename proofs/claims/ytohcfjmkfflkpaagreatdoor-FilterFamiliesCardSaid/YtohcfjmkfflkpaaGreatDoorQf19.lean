/- FilterFamilies holds. No condition. -/
import Derived.StillTailTactics
import Derived.Test.YtohcfjmkfflkpaaGreatDoorQf17
set_option maxHeartbeats 1000000
set_option maxRecDepth 100000
namespace Go.Proofs.YtohcfjmkfflkpaaGreatDoor
section
open Go.RowKit
open Ma Me
theorem pI(A:Option Addr)(c B n:Nat)(ds:List Nat)(w:World)(hn:ds.length=n)(hc:n≤c)(hm:n≤9223372036854775807)(hx:Rd .i64 w B A ds):
  Calls Tryz.prog 130 #[.slice A n c] w fun e w'=>∃k,k≤ds.length∧e=.returned (.slice A k c)∧Nz (ds.take k)∧(∀b,vl b (ds.take k)=vl b ds)∧w=w':=by
 subst hn;go_enter Tryz.func130,Tryz.ntmps130
 go_wp2
 go_loop [3] (fun i=>∃k:Nat,k≤ds.length∧i=.int .i64 (k:Int)∧∀b,vl b (ds.take k)=vl b ds) (fun i=>(intOf i).toNat)
 case atStart=>exact⟨ds.length,by omega,rfl,fun b=>by simp⟩
 case round=>
  obtain⟨k,hk,rfl,hv⟩:=hrel;have HV:=hZ hv;clear hv;by_cases hlt:0<k
  ·obtain⟨j,rfl⟩:∃j,k=j+1:=⟨k-1,by omega⟩
   obtain⟨ad,rfl,hb,hcell⟩:=hx.at_ (k:=j) (by omega);by_cases h0:ds[j]=0
   ·have h0':((ds[j]:Int) == 0)=true:=(by simp[h0]);have H:∀b,vl b (ds.take j)=vl b ds:=fun b=>(by rw[←HV.out b,gJ b (by omega),h0];simp);have H:=hZ H;clear h0 HV;go_wp2
    exact⟨⟨j,by omega,rfl,H.out⟩,by simp[intOf]⟩
   ·have h0':((ds[j]:Int) == 0)=false:=(by simp;omega);have H:Nz (ds.take (j+1)):=aCG (by omega) h0;clear h0;go_wp2
    go_ret
    exact⟨j+1,by omega,rfl,H,HV.out,rfl⟩
  ·obtain rfl:k=0:=(by omega);go_wp2
   go_ret
   exact⟨0,by omega,rfl,aEg,HV.out,rfl⟩
theorem aIY(A B:Option Addr)(n c d:Nat)(xs ys:List Nat)(w:World)(lx:Hid (xs.length=n))(ly:Hid (ys.length=n))(hn:n≤9223372036854775807)(rx:Rd .i64 w w.heap.size A xs)(ry:Rd .i64 w w.heap.size B ys)(wx:Wf B30 xs)(wy:Wf B30 ys):
  Calls Tryz.prog 149 #[.slice A n c,.slice B n d] w fun e w'=>e=.returned (.int .i64 (cmp (vl B30 xs) (vl B30 ys)))∧Q w w':=by
 go_enter Tryz.func149,Tryz.ntmps149
 go_wp2
 go_loopw [5] (fun i w1=>∃k:Nat,k≤n∧i=.int .i64 ((k:Int)-1)∧xs.drop k=ys.drop k∧∃m,w1=w.drewN m) (fun i _=>(intOf i+1).toNat)
 case atStart=>exact⟨n,by omega,rfl,by rw[List.drop_of_length_le (by rw[lx.out];omega),List.drop_of_length_le (by rw[ly.out];omega)],0,rfl⟩
 case round=>
  obtain⟨k,hk,rfl,hdrop,m,rfl⟩:=hrel;have HD:=hZ hdrop;clear hdrop;by_cases hlt:0<k
  ·obtain⟨j,rfl⟩:∃j,k=j+1:=⟨k-1,by omega⟩
   have jx:j<xs.length:=(by rw[lx.out];omega);have jy:j<ys.length:=(by rw[ly.out];omega);obtain⟨ad,rfl,hb,hcx⟩:=rx.at_ jx;obtain⟨ae,rfl,hb',hcy⟩:=ry.at_ jy;rw[show ((j+1:Nat):Int)-1=(j:Int) from by omega];have HX:=hZ (List.getElem?_eq_getElem jx);have HY:=hZ (List.getElem?_eq_getElem jy);generalize xs[j]=x at*
   generalize ys[j]=y at*
   clear jx jy hb hb';rcases Nat.lt_trichotomy x y with h|h|h
   ·go_wp2
    go_quiet (fail)
    go_wp2
    go_ret
    exact⟨by rw[fB (pQ wx.1 HD.out HX.out HY.out h)];rfl,(by repeat (first|exact Q.refl _|refine Q.drewN ?_ _))⟩
   ·subst h;go_wp2
    go_quiet (fail)
    go_wp2
    go_quiet (fail)
    go_wp2
    refine⟨⟨j,by omega,rfl,?_,_,rfl⟩,by simp[intOf]⟩;obtain⟨jx,ex⟩:=List.getElem?_eq_some_iff.1 HX.out;obtain⟨jy,ey⟩:=List.getElem?_eq_some_iff.1 HY.out;rw[List.drop_eq_getElem_cons jx,List.drop_eq_getElem_cons jy,ex,ey,HD.out]
   ·go_wp2
    go_quiet (fail)
    go_wp2
    go_quiet (fail)
    go_wp2
    go_ret
    exact⟨by rw[kJ (pQ wy.1 HD.out.symm HY.out HX.out h)];rfl,(by repeat (first|exact Q.refl _|refine Q.drewN ?_ _))⟩
  ·obtain rfl:k=0:=(by omega);rw[show ((0:Nat):Int)-1=-1 from by omega];go_wp2
   go_ret
   have e:xs=ys:=(by simpa using HD.out);exact⟨by rw[e,cmp_eq];rfl,(by repeat (first|exact Q.refl _|refine Q.drewN ?_ _))⟩
theorem mX(x y:Value)(M N:Nat)(w:World)(hx:Nr w x M)(hy:Nr w y N)(hM:dg B30 M≤LIM)(hN:dg B30 N≤LIM):
  Calls Tryz.prog 149 #[x,y] w fun e w'=>e=.returned (.int .i64 (cmp M N))∧Q w w':=by
 obtain⟨A,c,xs,rfl,hc,rx,wx,rfl⟩:=hx;obtain⟨B,d,ys,rfl,hd,ry,wy,rfl⟩:=hy;rw[←wx.len aI,aB]at hM;rw[←wy.len aI,aB]at hN;rcases Nat.lt_trichotomy xs.length ys.length with hlt|heq|hgt
 ·have h:=Wf.len_lt (b:=B30) (by decide) wx.1 wy.2 hlt;rw[fB h];clear h;go_enter Tryz.func149,Tryz.ntmps149
  go_wp2
  go_ret
  exact⟨rfl,Q.refl _⟩
 ·obtain⟨n,hn⟩:∃n,xs.length=n:=⟨_,rfl⟩
  have hn2:ys.length=n:=(by omega);rw[hn,hn2];exact aIY A B n c d xs ys w hn hn2 (by omega) rx ry wx wy
 ·have h:=Wf.len_lt (b:=B30) (by decide) wy.1 wx.2 hgt;rw[kJ h];clear h;go_enter Tryz.func149,Tryz.ntmps149
  go_wp2
  go_ret
  exact⟨rfl,Q.refl _⟩
theorem xW:(Tryz.prog.info? 2).map (fun i=>(i.zero,i.size,i.bytes))=some (some (.int .i64 0),1,8):=by kernel_rfl
theorem wH(n:Nat)(e:Int)(he:e=(n:Int))(hn:n≤LIM)(w:World):
  (Instr.makeSlice 43 (.int .i64 e) (.int .i64 e)).run Tryz.prog w=.ok (.slice (some ⟨w.heap.size,0,none⟩) n n) (w.alloc (.cells (zs .i64 n) 2)):=by
 rw[aB]at hn;subst he;rw[←aAp];exact run_make_row' _ _ _ 8 Tryz.underlying43 xW rfl _ _ n (by omega) (by omega) w
theorem aPQ(n c:Nat)(a b:Int)(ha:a=(n:Int))(hb:b=(c:Int))(hnc:n≤c)(hc:c≤LIM)(w:World):
  (Instr.makeSlice 43 (.int .i64 a) (.int .i64 b)).run Tryz.prog w=.ok (.slice (some ⟨w.heap.size,0,none⟩) n c) (w.alloc (.cells (zs .i64 c) 2)):=by
 rw[aB]at hc;subst ha hb;obtain⟨i,hi,h1,h2,h3⟩:=info_parts xW;have h:=run_make (P:=Tryz.prog) w 43 2 i (.int .i64 0) Tryz.underlying43 hi h1 .i64 .i64 (n:Int) (c:Int) (by omega) (by omega) (by rw[h3];omega) (by omega);rw[h2]at h;simp only[Int.toNat_natCast,Nat.mul_one]at h;rw[h,←aAp];rfl
theorem aLf(x y:Value)(M N:Nat)(w:World)(hx:Nr w x M)(hy:Nr w y N)(hM:dg B30 M+1≤LIM)(hN:dg B30 N+1≤LIM):
  Calls Tryz.prog 131 #[x,y] w (oQ (M+N) w):=by
 have hlen:dg B30 N≤dg B30 M∨dg B30 M<dg B30 N:=by omega
 rcases hlen with hlen|hlen
 case' inl=>
  obtain⟨A,c,xs,rfl,hc,rx,wx,rfl⟩:=hx;obtain⟨B,d,ys,rfl,hd,ry,wy,rfl⟩:=hy;rw[←wx.len aI,←wy.len aI]at hlen;rw[←wx.len aI]at hM;rw[←wy.len aI]at hN
 case' inr=>
  obtain⟨B,d,ys,rfl,hd,ry,wy,rfl⟩:=hx;obtain⟨A,c,xs,rfl,hc,rx,wx,rfl⟩:=hy;rw[←wx.len aI,←wy.len aI]at hlen;rw[←wy.len aI]at hM;rw[←wx.len aI]at hN;rw[Nat.add_comm (vl B30 ys)]
 all_goals
  have hmk:=wH (xs.length+1) ((xs.length:Int)+1) rfl (by omega);rw[aB]at hM hN;go_enter Tryz.func131,Tryz.ntmps131
  go_wp2
  go_loopw [6,7] (fun cv iv w1=>∃(k cy:Nat) (out:List Nat),k≤xs.length∧iv=.int .i64 (k:Int)∧cv=.int .i64 (cy:Int)∧cy≤1∧
      out.length=xs.length+1∧(∀d∈out,d<B30)∧vl B30 (out.take k)+B30^k*cy=vl B30 (xs.take k)+vl B30 (ys.take k)∧
      Blk .i64 w1 w.heap.size 2 out∧Q w w1) (fun _ iv _=>xs.length-(intOf iv).toNat)
  case atStart=>exact⟨0,0,List.replicate (xs.length+1) 0,by omega,rfl,rfl,by omega,by simp,fA (by decide),by simp[vl],Blk.made _ _ _,(Q.refl _).alloc _⟩
  case round=>
   obtain⟨k,cy,out,hk,rfl,rfl,hcy,hl,ho,hv,hb,hq⟩:=hrel;have HV:=hZ hv;clear hv;have HL:=hZ hl;clear hl;by_cases hlt:k<xs.length
   ·obtain⟨ad,rfl,hbk,hcx⟩:=(rx.below hq).at_ hlt;have hcell:=hb.cell (i:=k) (by rw[HL.out];omega);have hfz:=hb.frozen k;have bx:xs[k]<1073741824:=wx.1 _ (List.getElem_mem _);have HX:=hZ (List.getElem?_eq_getElem hlt);generalize xs[k]=x at*
    by_cases hlt2:k<ys.length
    ·obtain⟨ae,rfl,hbk',hcy'⟩:=(ry.below hq).at_ hlt2;have by_:ys[k]<1073741824:=wy.1 _ (List.getElem_mem _);have HY:=hZ (List.getElem?_eq_getElem hlt2);generalize ys[k]=y at*
     go_wp2
     refine⟨⟨k+1,(cy+x+y)/B30,out.set k ((cy+x+y) % B30),by omega,by go_num,congrArg (Value.int _) (by rw[aS];omega),by rw[aS];omega,
      by rw[List.length_set,HL.out],eH ho (Nat.mod_lt _ (by decide)),?_,hb.put k _ (by rw[aS];omega),hq.setCell (Nat.le_refl _) _⟩,by simp[intOf];omega⟩
     rw[dK _ (by rw[HL.out];omega),cK _ HX.out,cK _ HY.out];exact aBH HV.out rfl (Nat.mod_add_div _ _).symm
    ·go_wp2
     refine⟨⟨k+1,(cy+x)/B30,out.set k ((cy+x) % B30),by omega,by go_num,congrArg (Value.int _) (by rw[aS];omega),by rw[aS];omega,
      by rw[List.length_set,HL.out],eH ho (Nat.mod_lt _ (by decide)),?_,hb.put k _ (by rw[aS];omega),hq.setCell (Nat.le_refl _) _⟩,by simp[intOf];omega⟩
     rw[dK _ (by rw[HL.out];omega),cK _ HX.out,oO _ (by omega)];exact aBH HV.out (by omega) (Nat.mod_add_div _ _).symm
   ·obtain rfl:k=xs.length:=(by omega);have hcell:=hb.cell (i:=xs.length) (by rw[HL.out];omega);have hfz:=hb.frozen xs.length;go_wp2_with fail
    have hb2:=hb.put xs.length cy (e:=(cy:Int)) rfl;refine (pI _ _ (w.heap.size+1) _ _ _ (by rw[List.length_set,HL.out]) (Nat.le_refl _) (by omega) (hb2.rd (Nat.lt_succ_self _))).mono ?_;rintro e w2 ⟨k,hk2,rfl,hnz,hv,rfl⟩;go_wp2
    go_ret
    have ho2:=eH (k:=xs.length) ho (show cy<B30 by rw[aS];omega);refine⟨_,rfl,Nn.of_blk hb2 hk2 (by rw[List.length_set,HL.out]at hk2;exact hk2) hnz ho2 ?_,hq.setCell (Nat.le_refl _) _,Nw.at_ (Nat.le_refl _)⟩
    rw[hv,←List.take_of_length_le (l:=out.set xs.length cy) (i:=xs.length+1) (by rw[List.length_set,HL.out];omega),dK _ (by rw[HL.out];omega),HV.out,
     List.take_length,List.take_of_length_le (by omega)]
theorem aAW(x y:Value)(M N:Nat)(w:World)(hx:Nr w x M)(hy:Nr w y N)(hle:N≤M)(hM:dg B30 M+1≤LIM):
  Calls Tryz.prog 150 #[x,y] w (oQ (M-N) w):=by
 obtain⟨A,c,xs,rfl,hc,rx,wx,rfl⟩:=hx;obtain⟨B,d,ys,rfl,hd,ry,wy,rfl⟩:=hy;have hlen:=Wf.len_le (by decide) wx wy hle;rw[←wx.len aI]at hM;have hmk:=wH xs.length (xs.length:Int) rfl (by omega);rw[aB]at hM;go_enter Tryz.func150,Tryz.ntmps150
 go_wp2
 go_loopw [6,7,8] (fun lv iv _ w1=>∃(k l:Nat) (out:List Nat),k≤xs.length∧iv=.int .i64 (k:Int)∧lv=.int .i64 (l:Int)∧l≤1∧
     out.length=xs.length∧(∀d∈out,d<B30)∧vl B30 (xs.take k)+B30^k*l=vl B30 (out.take k)+vl B30 (ys.take k)∧
     Blk .i64 w1 w.heap.size 2 out∧Q w w1) (fun _ iv _ _=>xs.length-(intOf iv).toNat)
 case atStart=>exact⟨0,0,List.replicate xs.length 0,by omega,rfl,rfl,by omega,by simp,fA (by decide),by simp[vl],Blk.made _ _ _,(Q.refl _).alloc _⟩
 case round=>
  obtain⟨k,l,out,hk,rfl,rfl,hl1,hl,ho,hv,hb,hq⟩:=hrel;have HV:=hZ hv;clear hv;have HL:=hZ hl;clear hl;by_cases hlt:k<xs.length
  ·obtain⟨ad,rfl,hbk,hcx⟩:=(rx.below hq).at_ hlt;have hcell:=hb.cell (i:=k) (by rw[HL.out];omega);have hfz:=hb.frozen k;have bx:xs[k]<1073741824:=wx.1 _ (List.getElem_mem _);have HX:=hZ (List.getElem?_eq_getElem hlt);generalize xs[k]=x at*
   by_cases hlt2:k<ys.length
   ·obtain⟨ae,rfl,hbk',hcy'⟩:=(ry.below hq).at_ hlt2;have by_:ys[k]<1073741824:=wy.1 _ (List.getElem_mem _);have HY:=hZ (List.getElem?_eq_getElem hlt2);generalize ys[k]=y at*
    by_cases hn:x<l+y
    ·go_wp2
     refine⟨⟨k+1,1,out.set k (x+B30-l-y),by omega,by go_num,rfl,by omega,
      by rw[List.length_set,HL.out],eH ho (by rw[aS];omega),?_,hb.put k _ (by rw[aS];omega),hq.setCell (Nat.le_refl _) _⟩,by simp[intOf];omega⟩
     rw[dK _ (by rw[HL.out];omega),cK _ HX.out,cK _ HY.out];exact oP HV.out (by rw[aS];omega)
    ·go_wp2
     refine⟨⟨k+1,0,out.set k (x-l-y),by omega,by go_num,rfl,by omega,
      by rw[List.length_set,HL.out],eH ho (by rw[aS];omega),?_,hb.put k _ (by omega),hq.setCell (Nat.le_refl _) _⟩,by simp[intOf];omega⟩
     rw[dK _ (by rw[HL.out];omega),cK _ HX.out,cK _ HY.out];exact oP HV.out (by omega)
   ·by_cases hn:x<l
    ·go_wp2
     refine⟨⟨k+1,1,out.set k (x+B30-l),by omega,by go_num,rfl,by omega,
      by rw[List.length_set,HL.out],eH ho (by rw[aS];omega),?_,hb.put k _ (by rw[aS];omega),hq.setCell (Nat.le_refl _) _⟩,by simp[intOf];omega⟩
     rw[dK _ (by rw[HL.out];omega),cK _ HX.out,oO _ (by omega)];exact oP HV.out (by rw[aS];omega)
    ·go_wp2
     refine⟨⟨k+1,0,out.set k (x-l),by omega,by go_num,rfl,by omega,
      by rw[List.length_set,HL.out],eH ho (by rw[aS];omega),?_,hb.put k _ (by omega),hq.setCell (Nat.le_refl _) _⟩,by simp[intOf];omega⟩
     rw[dK _ (by rw[HL.out];omega),cK _ HX.out,oO _ (by omega)];exact oP HV.out (by omega)
  ·obtain rfl:k=xs.length:=(by omega);go_wp2_with fail
   refine (pI _ _ (w.heap.size+1) _ _ _ HL.out (Nat.le_refl _) (by omega) (hb.rd (Nat.lt_succ_self _))).mono ?_;rintro e w2 ⟨k,hk2,rfl,hnz,hv,rfl⟩;go_wp2
   go_ret
   refine⟨_,rfl,Nn.of_blk hb hk2 (by rw[HL.out]at hk2;exact hk2) hnz ho ?_,hq,Nw.at_ (Nat.le_refl _)⟩;rw[hv];refine aBI ho HL.out hle (l:=l) ?_;have h:=HV.out;rw[List.take_length,List.take_of_length_le hlen,List.take_of_length_le (by rw[HL.out];omega)]at h;exact h
theorem aC8(x y:Value)(M N:Nat)(w:World)(hx:Nr w x M)(hy:Nr w y N)(hM:dg B30 M+dg B30 N+2≤LIM):
  Calls Tryz.prog 76 #[x,y] w (oQ (M*N) w):=by
 obtain⟨A,c,xs,rfl,hc,rx,wx,rfl⟩:=hx;obtain⟨B,d,ys,rfl,hd,ry,wy,rfl⟩:=hy;rw[←wx.len aI,←wy.len aI]at hM;have hmk:=wH (xs.length+ys.length) ((xs.length:Int)+ys.length) rfl (by omega);rw[aB]at hM;go_enter Tryz.func76,Tryz.ntmps76
 go_wp2
 go_loopw [6,7,8] (fun iv _ _ w1=>∃(i:Nat) (out:List Nat),i≤xs.length∧iv=.int .i64 (i:Int)∧
     out.length=xs.length+ys.length∧(∀d∈out,d<B30)∧vl B30 (out.take (i+ys.length))=vl B30 (xs.take i)*vl B30 ys∧
     out.drop (i+ys.length)=List.replicate (xs.length-i) 0∧
     Blk .i64 w1 w.heap.size 2 out∧Q w w1) (fun iv _ _ _=>xs.length-(intOf iv).toNat)
 case atStart=>exact⟨0,List.replicate (xs.length+ys.length) 0,by omega,rfl,by simp,fA (by decide),by rw[List.take_replicate,kI];simp[vl],by simp,Blk.made _ _ _,(Q.refl _).alloc _⟩
 case round=>
  obtain⟨i,out0,hi,rfl,hl,ho,hv,hdr,hb,hq⟩:=hrel;have HV:=hZ hv;clear hv;have HL0:=hZ hl;clear hl;have HD:=hZ hdr;clear hdr;by_cases hlt:i<xs.length
  ·obtain⟨ad,rfl,hbk,hcx0⟩:=rx.at_ hlt;have bx:xs[i]<1073741824:=wx.1 _ (List.getElem_mem _);have HX:=hZ (List.getElem?_eq_getElem hlt);generalize xs[i]=x at*
   go_wp2
   obtain⟨wo,rfl⟩:∃wo:World,wo=wr:=⟨_,rfl⟩
   go_loopw [7,8] (fun cv kv w1=>∃(k cy:Nat) (out:List Nat),k≤ys.length∧kv=.int .i64 (k:Int)∧cv=.int .i64 (cy:Int)∧cy<1073741824∧
    out.length=xs.length+ys.length∧(∀d∈out,d<B30)∧vl B30 (out.take (i+k))+B30^(i+k)*cy=vl B30 (out0.take (i+k))+B30^i*(x*vl B30 (ys.take k))∧
    out.drop (i+k)=out0.drop (i+k)∧
    Blk .i64 w1 w.heap.size 2 out∧Q w w1) (fun _ kv _=>ys.length-(intOf kv).toNat)
   case atStart=>exact⟨0,0,out0,by omega,rfl,rfl,by omega,HL0.out,ho,by simp[vl],rfl,hb,hq⟩
   case round=>
    clear hb hq ho;obtain⟨k,cy,out,hk,rfl,rfl,hcy,hl,ho,hv,hdr,hb,hq⟩:=hrel;have HV2:=hZ hv;clear hv;have HL:=hZ hl;clear hl;have HD2:=hZ hdr;clear hdr;by_cases hlt2:k<ys.length
    ·obtain⟨ae,rfl,hbk',hcy'⟩:=(ry.below hq).at_ hlt2;have hcx:=(hq.cell (p:=ad.add i) (by rw[iJ];exact hbk)).trans hcx0;have by_:ys[k]<1073741824:=wy.1 _ (List.getElem_mem _);have HY:=hZ (List.getElem?_eq_getElem hlt2);generalize ys[k]=y at*
     have hik:i+k<out.length:=(by rw[HL.out];omega);have hcell:=hb.cell hik;have hfz:=hb.frozen (i+k);have bo:out[i+k]<1073741824:=ho _ (List.getElem_mem _);have HO:=hZ (List.getElem?_eq_getElem hik);generalize out[i+k]=o at*
     clear hik;have hp:(x:Int)*y≤1152921502459363329:=by
      have:=Nat.mul_le_mul (show x≤1073741823 by omega) (show y≤1073741823 by omega);have e:((x*y:Nat):Int)=(x:Int)*y:=Int.natCast_mul _ _;omega
     have hp0:0≤(x:Int)*y:=Int.mul_nonneg (by omega) (by omega);have HP:=hZ (show ((x*y:Nat):Int)=(x:Int)*y from Int.natCast_mul _ _);clear hcx0;go_wp2
     go_quiet (fail)
     go_wp2
     have hP:=HP.out
     refine⟨⟨k+1,(cy+x*y+o)/B30,out.set (i+k) ((cy+x*y+o) % B30),by omega,by go_num,congrArg (Value.int _) (by rw[aS];omega),by rw[aS];omega,
      by rw[List.length_set,HL.out],eH ho (Nat.mod_lt _ (by decide)),?_,?_,hb.put (i+k) _ (by rw[aS];omega),(hq.drewN _).setCell (Nat.le_refl _) _⟩,by simp[intOf];omega⟩
     ·have ho0:out0[i+k]? =some o:=(by rw[←aGs HD2.out];exact HO.out);rw[←Nat.add_assoc,dK _ (by rw[HL.out];omega),cK _ HY.out,cK _ ho0,Nat.add_assoc i k 1];exact aLJ HV2.out rfl (Nat.mod_add_div _ _).symm
     ·rw[←Nat.add_assoc,drop_set (by omega)];exact aEh HD2.out
    ·obtain rfl:k=ys.length:=(by omega);have hik:i+ys.length<out.length:=(by rw[HL.out];omega);have hcell:=hb.cell hik;have hfz:=hb.frozen (i+ys.length);generalize out[i+ys.length]=o at*
     clear hik hcx0;go_wp2
     refine⟨⟨i+1,out.set (i+ys.length) cy,by omega,by go_num,by rw[List.length_set,HL.out],eH ho (by rw[aS];omega),?_,?_,hb.put _ _ rfl,hq.setCell (Nat.le_refl _) _⟩,by simp[intOf];omega⟩
     ·rw[show i+1+ys.length=i+ys.length+1 from by omega,dK _ (by rw[HL.out];omega),HV2.out,HV.out,cK _ HX.out,List.take_length,Nat.add_mul,Nat.mul_assoc]
     ·rw[show i+1+ys.length=i+ys.length+1 from by omega,drop_set (by omega),←List.drop_drop,HD2.out,HD.out,List.drop_replicate];rfl
  ·obtain rfl:i=xs.length:=(by omega);go_wp2_with fail
   refine (pI _ _ (w.heap.size+1) _ _ _ HL0.out (Nat.le_refl _) (by omega) (hb.rd (Nat.lt_succ_self _))).mono ?_;rintro e w2 ⟨k,hk2,rfl,hnz,hv,rfl⟩;go_wp2
   go_ret
   refine⟨_,rfl,Nn.of_blk hb hk2 (by rw[HL0.out]at hk2;exact hk2) hnz ho ?_,hq,Nw.at_ (Nat.le_refl _)⟩;rw[hv];have h:=HV.out;rw[List.take_length,List.take_of_length_le (by rw[HL0.out];omega)]at h;exact h
theorem pJ(w:World):Calls Tryz.prog 91 #[] w (oQ 1 w):=by
 go_enter Tryz.func91,Tryz.ntmps91
 go_wp2
 go_ret
 exact⟨_,rfl,Nn.of_blk (ds:=[1]) (k:=1) (heap_alloc_new w _) (by simp) (by omega) (by simp[Nz]) (by simp[B30]) (by simp[vl]),(Q.refl _).alloc _,Nw.at_ (Nat.le_refl _)⟩
theorem aAX(x:Int)(N:Nat)(w:World)(hx:x=(N:Int))(h:N<1152921504606846976):Calls Tryz.prog 146 #[.int .i64 x] w (oQ N w):=by
 subst hx;go_enter Tryz.func146,Tryz.ntmps146
 go_wp2_with fail
 have hb:Blk .i64 (w.alloc (Obj.cells #[Value.int IntKind.i64 ((N:Int) % 1073741824),Value.int IntKind.i64 ((N:Int)/1073741824)] 2)) w.heap.size 2 [N % B30,N/B30]:=
  (heap_alloc_new w _).trans (by rw[aS];simp[nums])
 refine (pI _ _ (w.heap.size+1) _ _ _ (by rfl) (Nat.le_refl _) (by omega) (hb.rd (Nat.lt_succ_self _))).mono ?_;rintro e w2 ⟨k,hk2,rfl,hnz,hv,rfl⟩;go_wp2
 go_ret
 refine⟨_,rfl,Nn.of_blk hb hk2 hk2 hnz ?_ ?_,(Q.refl _).alloc _,Nw.at_ (Nat.le_refl _)⟩
 ·intro d hd;rw[aS]at*;simp at hd;omega
 ·rw[hv];simp only[eZ,aJn];rw[aS];omega
theorem aAb(x:Value)(N k:Nat)(z:Int)(w:World)(hx:Nr w x N)(hz:z=(k:Int))(hN:dg B30 N+k+2≤LIM):Calls Tryz.prog 77 #[x,.int .i64 z] w (oQ (N*2^k) w):=by
 subst hz;obtain⟨A,c,xs,rfl,hc,rx,wx,rfl⟩:=hx;rw[←wx.len aI]at hN;have hmk:=aPQ (k/30) (xs.length+k/30+1) ((k:Int)/30) ((xs.length:Int)+(k:Int)/30+1) (by omega) (by omega) (by omega) (by omega);rw[aB]at hN;obtain⟨i0,hi,hz0,hz1,hz2⟩:=info_parts xW;have hf:=aEI (k % 30) (by omega);have hf1:2^(k % 30)≤536870912:=by
  have h1:2^(k % 30)≤2^29:=Nat.pow_le_pow_right (by decide) (by omega);exact h1
 have hf0:0<2^(k % 30):=Nat.pow_pos (by decide);have HF:=hZ (rfl:2^(k % 30)=2^(k % 30));have HE:=hZ hf;clear hf;go_enter Tryz.func77,Tryz.ntmps77
 go_wp2_with fail
 rw[HE.out];clear HE;have hq30:2^k=B30^(k/30)*2^(k % 30):=by
  rw[show B30=2^30 from rfl,←Nat.pow_mul,←Nat.pow_add,Nat.div_add_mod]
 have HQ:=hZ hq30;clear hq30;generalize 2^(k % 30)=f at*
 clear HF;obtain⟨q,hq⟩:∃q,q=k/30:=⟨_,rfl⟩
 rw[←hq]at HQ⊢;have HK:=hZ hq;have hqk:q≤k:=by omega
 clear hmk hq
 go_loopw [5,7,8] (fun ov cv iv w1=>∃(i cy:Nat) (out:List Nat),i≤xs.length∧iv=.int .i64 (i:Int)∧cv=.int .i64 (cy:Int)∧cy<f∧
     ov=.slice (some ⟨w.heap.size,0,none⟩) (q+i) (xs.length+q+1)∧
     out.length=xs.length+q+1∧(∀d∈out,d<B30)∧vl B30 (out.take (q+i))+B30^(q+i)*cy=B30^q*(vl B30 (xs.take i)*f)∧
     Blk .i64 w1 w.heap.size 2 out∧Q w w1) (fun _ _ iv _=>xs.length-(intOf iv).toNat)
 case atStart=>exact⟨0,0,List.replicate (xs.length+q+1) 0,by omega,rfl,rfl,hf0,rfl,by simp,fA (by decide),by rw[List.take_replicate,kI];simp[vl],Blk.made _ _ _,(Q.refl _).alloc _⟩
 case round=>
  obtain⟨i,cy,out,hi1,rfl,rfl,hcy,rfl,hl,ho,hv,hb,hq⟩:=hrel;have HV:=hZ hv;clear hv;have HL:=hZ hl;clear hl;by_cases hlt:i<xs.length
  ·obtain⟨ad,rfl,hbk,hcx⟩:=(rx.below hq).at_ hlt;have bx:xs[i]<1073741824:=wx.1 _ (List.getElem_mem _);have HX:=hZ (List.getElem?_eq_getElem hlt);generalize xs[i]=x at*
   have hp:(x:Int)*f≤1073741823*f:=by
    have:=Nat.mul_le_mul_right f (show x≤1073741823 by omega);have e:((x*f:Nat):Int)=(x:Int)*f:=Int.natCast_mul _ _;omega
   have hp0:0≤(x:Int)*f:=Int.mul_nonneg (by omega) (by omega);have HP:=hZ (show ((x*f:Nat):Int)=(x:Int)*f from Int.natCast_mul _ _);go_wp2_with (at_builtin;go_must (refine aBd rfl _ _ _ rfl 2 i0 Tryz.underlying43 hi hz1 w.heap.size (q+i) (xs.length+q+1) out rfl _ _ rfl (hb.alloc _) HL.out (by omega) _ ((cy+x*f) % B30) (by have:=HP.out;rw[aS];omega) (eX _ _ _) ?_);intro w2 hb2 hg2)
   have hP:=HP.out;have hd:(cy+x*f)/B30<f:=by
    rw[Nat.div_lt_iff_lt_mul (by decide),aS];omega
   refine⟨⟨i+1,(cy+x*f)/B30,out.set (q+i) ((cy+x*f) % B30),by omega,by go_num,congrArg (Value.int _) (by rw[aS];omega),hd,rfl,
    by rw[List.length_set,HL.out],eH ho (Nat.mod_lt _ (by decide)),?_,hb2,Q.grown (hq.alloc _) hg2 (by intro k e;injection e with e;omega)⟩,by simp[intOf];omega⟩
   rw[←Nat.add_assoc,dK _ (by rw[HL.out];omega),cK _ HX.out,Nat.add_assoc q i 1];exact aHW HV.out rfl (Nat.mod_add_div _ _).symm
  ·obtain rfl:i=xs.length:=(by omega);go_wp2_with (at_builtin;go_must (refine aBd rfl _ _ _ rfl 2 i0 Tryz.underlying43 hi hz1 w.heap.size (q+xs.length) (xs.length+q+1) out rfl _ _ rfl (hb.alloc _) HL.out (by omega) _ cy rfl (eX _ _ _) ?_);intro w2 hb2 hg2)
   have ho2:=eH (k:=q+xs.length) ho (show cy<B30 by rw[aS];omega);refine (pI _ _ (w.heap.size+1) _ (out.set (q+xs.length) cy) _ (by rw[List.length_set,HL.out];omega) (by omega) (by omega) (hb2.rd (Nat.lt_succ_self _))).mono ?_;rintro e w3 ⟨k2,hk2,rfl,hnz,hv,rfl⟩;go_wp2
   go_ret
   refine⟨_,rfl,Nn.of_blk hb2 hk2 (by rw[List.length_set,HL.out]at hk2;exact hk2) hnz ho2 ?_,Q.grown (hq.alloc _) hg2 (by intro k e;injection e with e;omega),Nw.at_ (Nat.le_refl _)⟩
   rw[hv,←List.take_of_length_le (l:=out.set (q+xs.length) cy) (i:=q+xs.length+1) (by rw[List.length_set,HL.out];omega),dK _ (by rw[HL.out];omega),HV.out,
      List.take_length,HQ.out]
   grind
theorem aTL(x:Value)(N:Nat)(w:World)(hx:Nr w x N):Calls Tryz.prog 92 #[x] w fun e w'=>e=.returned (.bool (decide (N=1)))∧w=w':=by
 obtain⟨A,c,xs,rfl,hc,rx,wx,rfl⟩:=hx;by_cases h1:xs.length=1
 ·obtain⟨d,rfl⟩:∃d,xs=[d]:=List.length_eq_one_iff.1 h1;obtain⟨ad,rfl,hb,hcell⟩:=rx.head (by simp);simp only[List.getElem_cons_zero]at hcell;have e:decide (vl B30 [d]=1)=((d:Int) == 1):=by
   have e0:vl B30 [d]=d:=(by simp[vl]);rw[e0,Bool.eq_iff_iff,decide_eq_true_iff,beq_iff_eq];omega
  rw[e];have HE:=hZ e;clear e h1;go_enter Tryz.func92,Tryz.ntmps92
  go_wp2
  go_ret
  exact⟨rfl,rfl⟩
 ·have e:decide (vl B30 xs=1)=false:=by
   simp only[decide_eq_false_iff_not];intro e;apply h1;rw[wx.len aI,e,iK aI]
  rw[e];have h2:((xs.length:Int) == 1)=false:=(by simp;omega);go_enter Tryz.func92,Tryz.ntmps92
  go_wp2
  go_ret
  exact⟨rfl,rfl⟩
theorem aPR(x:Int)(N:Nat)(w:World)(hx:x=(N:Int))(h:N≤9223372036854775807):Calls Tryz.prog 132 #[.int .i64 x] w (oQ N w):=by
 subst hx;go_enter Tryz.func132,Tryz.ntmps132
 go_wp2_with fail
 have hb:Blk .i64 (w.alloc (Obj.cells #[Value.int IntKind.i64 ((N:Int) % 1073741824),Value.int IntKind.i64 ((N:Int)/1073741824 % 1073741824),Value.int IntKind.i64 ((N:Int)/1073741824/1073741824)] 2)) w.heap.size 2 [N % B30,N/B30 % B30,N/B30/B30]:=
  (heap_alloc_new w _).trans (by rw[aS];simp[nums])
 refine (pI _ _ (w.heap.size+1) _ _ _ (by rfl) (Nat.le_refl _) (by omega) (hb.rd (Nat.lt_succ_self _))).mono ?_;rintro e w2 ⟨k,hk2,rfl,hnz,hv,rfl⟩;go_wp2
 go_ret
 refine⟨_,rfl,Nn.of_blk hb hk2 hk2 hnz ?_ ?_,(Q.refl _).alloc _,Nw.at_ (Nat.le_refl _)⟩
 ·intro d hd;rw[aS]at*;simp at hd;omega
 ·rw[hv];simp only[eZ,aJn];rw[aS];omega
theorem aHD(x:Value)(N:Nat)(w:World)(hx:Nr w x N)(h:dg B30 N≤2):Calls Tryz.prog 151 #[x] w fun e w'=>e=.returned (.int .i64 (N:Int))∧w=w':=by
 obtain⟨A,c,xs,rfl,hc,rx,wx,rfl⟩:=hx;rw[←wx.len aI]at h;go_enter Tryz.func151,Tryz.ntmps151
 go_wp2
 go_loop [3,4] (fun nv iv=>∃(k:Nat) (V:Nat),k≤xs.length∧iv=.int .i64 ((k:Int)-1)∧nv=.int .i64 (V:Int)∧V=vl B30 (xs.drop k)) (fun _ iv=>(intOf iv+1).toNat)
 case atStart=>exact⟨xs.length,0,by omega,rfl,rfl,by simp[vl]⟩
 case round=>
  obtain⟨k,V,hk,rfl,rfl,X⟩:=hrel;have HV:=hZ X;clear X;by_cases hlt:0<k
  ·obtain⟨j,rfl⟩:∃j,k=j+1:=⟨k-1,by omega⟩
   have jx:j<xs.length:=(by omega);obtain⟨ad,rfl,hb,hcx⟩:=rx.at_ jx;have ba:xs[j]<1073741824:=wx.1 _ (List.getElem_mem _);have HX:=hZ (dP B30 jx);rw[show ((j+1:Nat):Int)-1=(j:Int) from by omega];have hV2:V<1073741824:=by
    rw[HV.out];refine Nat.lt_of_lt_of_le (aHZ (b:=B30) (j+1) wx.1) ?_;have:=Nat.pow_le_pow_right (n:=B30) (by decide) (show xs.length-(j+1)≤1 by omega);rw[Nat.pow_one]at this;exact this
   generalize xs[j]=x at*
   clear jx;go_wp2
   exact⟨⟨j,V*B30+x,by omega,rfl,congrArg (Value.int _) (by rw[aS];omega),by rw[HX.out,←HV.out];grind⟩,by simp[intOf]⟩
  ·obtain rfl:k=0:=(by omega);rw[show ((0:Nat):Int)-1=-1 from by omega];go_wp2
   go_ret
   exact⟨by rw[HV.out];rfl,rfl⟩
theorem aNb(x:Value)(N:Nat)(w:World)(hx:Nr w x N)(h:dg B30 N≤LIM):Calls Tryz.prog 177 #[x] w fun e w'=>e=.returned (.int .i64 (bl N:Int))∧w=w':=by
 obtain⟨A,c,xs,rfl,hc,rx,wx,rfl⟩:=hx;rw[←wx.len aI,aB]at h;by_cases h0:xs.length=0
 ·obtain rfl:xs=[]:=List.eq_nil_of_length_eq_zero h0;have h2:((0:Int) == 0)=true:=rfl;rw[show bl (vl B30 [])=0 from aAq];simp only[List.length_nil];clear h0;go_enter Tryz.func177,Tryz.ntmps177
  go_wp2
  go_ret
  exact⟨rfl,rfl⟩
 ·obtain⟨n,hn⟩:∃n,xs.length=n+1:=⟨xs.length-1,by omega⟩
  obtain⟨ad,rfl,hb,hcx⟩:=rx.at_ (k:=n) (by omega);have ba:xs[n]<1073741824:=wx.1 _ (List.getElem_mem _);have bz:0<xs[n]:=by
   have h1:=wx.2;rw[Nz,List.getLast?_eq_getElem?,hn,Nat.add_sub_cancel,List.getElem?_eq_getElem (by omega)]at h1;simp at h1;omega
  have hB:=aDj (p:=30) (n:=n) wx.1 hn (List.getElem?_eq_getElem (by omega)) bz;change bl (vl B30 xs)=_ at hB;rw[hn,hB];clear hB hc wx;generalize xs[n]=t0 at*
  have h2:((n:Int)+1 == 0)=false:=(by simp;omega);have hbl:bl t0≤30:=(cO _ _).2 ba;go_enter Tryz.func177,Tryz.ntmps177
  go_wp2
  go_loop [3,4] (fun nv tv=>∃(m t:Nat),nv=.int .i64 (m:Int)∧tv=.int .i64 (t:Int)∧m+bl t=30*n+bl t0∧t<1073741824) (fun _ tv=>(intOf tv).toNat)
  case atStart=>exact⟨30*n,t0,congrArg (Value.int _) (by omega),rfl,rfl,ba⟩
  case round=>
   obtain⟨m,t,rfl,rfl,hm,ht⟩:=hrel;by_cases hp:0<t
   ·have hm2:m+1+bl (t/2)=30*n+bl t0:=(by rw[pU hp]at hm;omega);have hm1:m≤30*n+30:=(by omega);have HM:=hZ hm2;clear hm hm2;go_wp2
    exact⟨⟨m+1,t/2,by go_num,congrArg (Value.int _) (by omega),HM.out,by omega⟩,by simp[intOf];omega⟩
   ·obtain rfl:t=0:=(by omega);rw[aAq]at hm;have HM:=hZ hm;clear hm;go_wp2
    go_ret
    exact⟨aAy (by have:=HM.out;omega),rfl⟩
theorem aAY(x:Value)(N:Nat)(w:World)(hx:Nr w x N)(h:dg B30 N≤LIM)(h0:0<N):Calls Tryz.prog 147 #[x] w fun e w'=>e=.returned (.int .i64 (tz N:Int))∧w=w':=by
 obtain⟨A,c,xs,rfl,hc,rx,wx,rfl⟩:=hx;rw[←wx.len aI,aB]at h;go_enter Tryz.func147,Tryz.ntmps147
 go_wp2
 go_loop [3] (fun nv=>∃(q:Nat),nv=.int .i64 (30*(q:Int))∧q<xs.length∧∀j,j<q→xs[j]? =some 0) (fun nv=>xs.length*30-(intOf nv).toNat)
 case atStart=>
  refine⟨0,rfl,?_,by omega⟩;rcases xs with _|_
  ·simp[vl]at h0
  ·simp
 case round=>
  obtain⟨q,rfl,hq,hz⟩:=hrel;obtain⟨ad,rfl,hb,hcx⟩:=rx.at_ hq;have ba:xs[q]<1073741824:=wx.1 _ (List.getElem_mem _);by_cases hx0:xs[q]=0
  ·have hnext:q+1<xs.length:=by
    rcases Nat.lt_or_ge (q+1) xs.length with h1|h1
    ·exact h1
    ·exfalso;have h2:=wx.2;rw[Nz,List.getLast?_eq_getElem?,show xs.length-1=q by omega,List.getElem?_eq_getElem hq,hx0]at h2;exact h2 rfl
   have hz2:∀j,j<q+1→xs[j]? =some 0:=by
    intro j hj;rcases Nat.lt_or_ge j q with h1|h1
    ·exact hz j h1
    ·obtain rfl:j=q:=(by omega);rw[List.getElem?_eq_getElem hq,hx0]
   have HZ2:=hZ hz2;clear hz2 hz;have h3:((xs[q]:Int) == 0)=true:=(by simp[hx0]);clear hx0;generalize xs[q]=t at*
   go_wp2
   exact⟨⟨q+1,congrArg (Value.int _) (by omega),hnext,HZ2.out⟩,by simp[intOf];omega⟩
  ·have hB:=aDk (p:=30) (q:=q) hz (List.getElem?_eq_getElem hq) (by omega) ba;change tz (vl B30 xs)=_ at hB;have HB:=hZ hB;have h3:((xs[q]:Int) == 0)=false:=(by simp;omega);clear hB hz wx h0 hc;have hpos:0<xs[q]:=(by omega);clear hx0;have htz:tz xs[q]≤30:=by
    rcases Nat.lt_or_ge 30 (tz xs[q]) with h1|h1
    ·exfalso;have h2:=(iP hpos).1;have h4:0<xs[q] / 2^tz xs[q]:=by
      rcases Nat.eq_zero_or_pos (xs[q] / 2^tz xs[q]) with h5|h5
      ·rw[h5]at h2;omega
      ·exact h5
     have h5:=Nat.mul_le_mul_left (2^tz xs[q]) h4;have h6:2^30≤2^tz xs[q]:=Nat.pow_le_pow_right (by decide) (by omega);have h7:(2:Nat)^30=1073741824:=rfl;omega
    ·exact h1
   generalize xs[q]=t0 at*
   go_wp2
   go_loop [3,4] (fun nv tv=>∃(m t:Nat),nv=.int .i64 (m:Int)∧tv=.int .i64 (t:Int)∧m+tz t=30*q+tz t0∧t<1073741824∧0<t) (fun _ tv=>(intOf tv).toNat)
   case atStart=>exact⟨30*q,t0,congrArg (Value.int _) (by omega),rfl,rfl,ba,hpos⟩
   case round=>
    obtain⟨m,t,rfl,rfl,hm,ht,ht0⟩:=hrel;by_cases hp:t % 2=0
    ·have hm2:m+1+tz (t/2)=30*q+tz t0:=(by rw[rD ht0 hp]at hm;omega);have hm1:m≤30*q+30:=(by omega);have HM:=hZ hm2;clear hm hm2;have h4:((t:Int) % 2 == 0)=true:=(by simp;omega);have ht2:2≤t:=(by omega);clear hp;go_wp2
     exact⟨⟨m+1,t/2,by go_num,congrArg (Value.int _) (by omega),HM.out,by omega,by omega⟩,by simp[intOf];omega⟩
    ·rw[yK (by omega)]at hm;have HM:=hZ hm;clear hm;have h4:((t:Int) % 2 == 0)=false:=(by simp;omega);clear hp;go_wp2
     go_ret
     exact⟨aAy (by have:=HM.out;have:=HB.out;omega),rfl⟩
theorem wJ(x:Value)(N k:Nat)(z:Int)(w:World)(hx:Nr w x N)(hz:z=(k:Int))(h:dg B30 N≤LIM)(hk:k≤4611686018427387904):Calls Tryz.prog 148 #[x,.int .i64 z] w (oQ (N/2^k) w):=by
 subst hz;obtain⟨A,c,xs,rfl,hc,rx,wx,rfl⟩:=hx;rw[←wx.len aI]at h;have hq30:2^k=B30^(k/30)*2^(k % 30):=by
  rw[show B30=2^30 from rfl,←Nat.pow_mul,←Nat.pow_add,Nat.div_add_mod]
 rw[hq30,←Nat.div_div_eq_div_mul];clear hq30;by_cases hlt:xs.length≤k/30
 ·have e:vl B30 xs/B30^(k/30)/2^(k % 30)=0:=by
   rw[show vl B30 xs/B30^(k/30)=0 from Nat.div_eq_of_lt ?_,Nat.zero_div];exact Nat.lt_of_lt_of_le (eF wx.1) (Nat.pow_le_pow_right (by decide) hlt)
  rw[e];clear e;rw[aB]at h;go_enter Tryz.func148,Tryz.ntmps148
  go_wp2
  go_ret
  exact⟨_,rfl,Nn.zero _ _,Q.refl _,Nw.nil⟩
 ·rw[←jA (by decide) (by omega) wx.1];obtain⟨ad,rfl,hbk,_⟩:=rx.at_ (k:=0) (by omega);have rz:=rx.drop (k:=k/30) hc;rw[if_neg (by omega)]at rz;simp only[Option.map_some]at rz;have mz:∀d∈xs.drop (k/30),d<B30:=gP wx.1;have hlz:(xs.drop (k/30)).length=xs.length-k/30:=(by rw[List.length_drop]);have hmk:=wH (xs.length-k/30) ((xs.length-k/30:Nat):Int) rfl (by omega);rw[aB]at h;have HZ:=hZ hlz;clear hlz;have HE:=hZ (aEI (k % 30) (by omega));have hf1:2^(k % 30)≤536870912:=by
   have h1:2^(k % 30)≤2^29:=Nat.pow_le_pow_right (by decide) (by omega);exact h1
  have hf0:0<2^(k % 30):=Nat.pow_pos (by decide);have HG:=hZ (show B30=2^(k % 30)*2^(30-k % 30) by rw[←Nat.pow_add,show k % 30+(30-k % 30)=30 by omega];rfl);have hg1:2^(30-k % 30)≤1073741824:=by
   have h1:2^(30-k % 30)≤2^30:=Nat.pow_le_pow_right (by decide) (by omega);exact h1
  go_enter Tryz.func148,Tryz.ntmps148
  go_wp2_with fail
  rw[HE.out];clear HE hmk;have hfg:(1073741824:Int)/((2^(k % 30):Nat):Int)=((2^(30-k % 30):Nat):Int):=by
   have:=HG.out;rw[aS]at this;rw[show (1073741824:Int)=((1073741824:Nat):Int) from rfl,this,←Int.natCast_ediv,Nat.mul_div_cancel_left _ hf0]
  have HFG:=hZ hfg;clear hfg;generalize 2^(k % 30)=f at*
  generalize 2^(30-k % 30)=g at*
  generalize ad.add (k/30)=az at*
  generalize xs.drop (k/30)=zl at*
  have hn:zl.length≤1099511627776:=(by rw[HZ.out];omega);have hn0:0<xs.length-k/30:=(by omega);have hn1:xs.length-k/30≤1099511627776:=(by omega);clear rx;generalize xs.length-k/30=n at*
  go_loopw [7] (fun iv w1=>∃(i:Nat) (out:List Nat),i≤n∧iv=.int .i64 (i:Int)∧
   out.length=n∧(∀d∈out,d<B30)∧f*vl B30 (out.take i)+zl.getD 0 0 % f=vl B30 (zl.take i)+B30^i*(zl.getD i 0 % f)∧
   Blk .i64 w1 w.heap.size 2 out∧Q w w1) (fun iv _=>n-(intOf iv).toNat)
  case atStart=>exact⟨0,List.replicate n 0,by omega,rfl,by simp,fA (by decide),by simp[vl],Blk.made _ _ _,(Q.refl _).alloc _⟩
  case round=>
   obtain⟨i,out,hi1,rfl,hl,ho,hv,hb,hq⟩:=hrel;have HV:=hZ hv;clear hv;have HL:=hZ hl;clear hl;by_cases hlt1:i<n
   ·have hiz:i<zl.length:=(by rw[HZ.out];exact hlt1);obtain⟨_,he,hbz,hcx⟩:=(rz.below hq).at_ hiz;cases he;have bx:zl[i]<1073741824:=mz _ (List.getElem_mem _);have hio:i<out.length:=(by rw[HL.out];exact hlt1);have hcell:=hb.cell hio;generalize out[i]=o at*
    clear hio;have hfz:=hb.frozen i;have hgd:zl.getD i 0=zl[i]:=(by rw[List.getD_eq_getElem?_getD,List.getElem?_eq_getElem hiz];rfl);have HD:=hZ hgd;clear hgd;generalize zl[i]=x at*
    clear hiz;have hxf:(x:Int)/f≤1073741823:=by
     have:=Nat.div_le_self x f;have e:((x/f:Nat):Int)=(x:Int)/f:=Int.natCast_ediv _ _;omega
    have hxf0:0≤(x:Int)/f:=Int.ediv_nonneg (by omega) (by omega);have HXF:=hZ (show ((x/f:Nat):Int)=(x:Int)/f from Int.natCast_ediv _ _);by_cases hlt2:i+1<n
    ·have hiz:i+1<zl.length:=(by rw[HZ.out];exact hlt2);obtain⟨_,he,hbz',hcx2⟩:=(rz.below hq).at_ hiz;cases he;have by_:zl[i+1]<1073741824:=mz _ (List.getElem_mem _);have hgd:zl.getD (i+1) 0=zl[i+1]:=(by rw[List.getD_eq_getElem?_getD,List.getElem?_eq_getElem hiz];rfl);have HD2:=hZ hgd;clear hgd;generalize zl[i+1]=y at*
     clear hiz;have hyf:=Nat.mod_lt y hf0;have HYF:=hZ (show ((y % f:Nat):Int)=(y:Int) % f from Int.natCast_emod _ _);have hyg:(y:Int) % f*g≤1073741824:=by
      have h1:=Nat.mul_le_mul_right g (Nat.le_of_lt hyf);have h2:=HG.out;rw[aS]at h2;rw[←HYF.out,←Int.natCast_mul];omega
     have hyg0:0≤(y:Int) % f*g:=Int.mul_nonneg (by rw[←HYF.out];omega) (by omega);have hyi:(y:Int) % f<f:=(by rw[←HYF.out];omega);have hyi0:0≤(y:Int) % f:=(by rw[←HYF.out];omega);have hD:(1073741824:Int)/f≤1073741824:=(by rw[HFG.out];omega);have hD0:0≤(1073741824:Int)/f:=(by rw[HFG.out];omega);have hyD:(y:Int) % f*(1073741824/f)≤1073741824:=(by rw[HFG.out];exact hyg);have hyD0:0≤(y:Int) % f*(1073741824/f):=(by rw[HFG.out];exact hyg0);clear hyg hyg0;go_wp2
     have hb5:=hb.put i (x/f) (e:=(x:Int)/f) HXF.out.symm;have hq5:=hq.setCell (p:=⟨w.heap.size,i,none⟩) (Nat.le_refl _) (.int .i64 ((x:Int)/f));generalize wr.setCell ⟨w.heap.size,i,none⟩ (.int .i64 ((x:Int)/f))=w5 at*
     have hcx5:w5.cell? (az.add (i+1))=some (.int .i64 (y:Int)):=by
      have h1:=(hq.cell (p:=az.add (i+1)) (by rw[iJ];exact hbz)).symm.trans hcx2;exact (hq5.cell (by rw[iJ];exact hbz)).trans h1
     have hc5:w5.cell? ⟨w.heap.size,i,none⟩=some (.int .i64 ((x:Int)/f)):=by
      rw[hb5.cell (by rw[List.length_set,HL.out];exact hlt1)];simp[HXF.out]
     have hf5:=hb5.frozen i;clear hcx2 hcell hfz hcx;rw[aLK]at hcx5;go_region
     go_wp2
     have hE:=HG.out;have hxg:x/f<g:=by
      rw[Nat.div_lt_iff_lt_mul hf0,Nat.mul_comm,←hE];rw[aS];exact bx
     have ho':x/f+y % f*g<B30:=by
      have h1:(y % f+1)*g≤f*g:=Nat.mul_le_mul_right g hyf;rw[Nat.add_mul,Nat.one_mul,←hE]at h1;omega
     have hcast:(x:Int)/f+(y:Int) % f*(1073741824/f)=((x/f+y % f*g:Nat):Int):=by
      rw[HFG.out,Int.natCast_add,Int.natCast_mul,HXF.out,HYF.out]
     refine⟨⟨i+1,(out.set i (x/f)).set i (x/f+y % f*g),by omega,by go_num,by rw[List.length_set,List.length_set,HL.out],eH (eH ho (by rw[aS];have:=Nat.div_le_self x f;omega)) ho',?_,(hb5.put i _ hcast).drew,(hq5.setCell (Nat.le_refl _) _).drew⟩,by simp[intOf];omega⟩;have hv:=HV.out;rw[HD.out]at hv;rw[List.set_set,dK _ (by rw[HL.out];omega),yJ,HD.out,HD2.out];exact aBJ hE hv rfl
    ·have hD2:zl.getD (i+1) 0=0:=by
      rw[List.getD_eq_getElem?_getD,List.getElem?_eq_none (by rw[HZ.out];omega)];rfl
     go_wp2
     refine⟨⟨i+1,out.set i (x/f),by omega,by go_num,by rw[List.length_set,HL.out],eH ho (by rw[aS];have:=Nat.div_le_self x f;omega),?_,hb.put i (x/f) HXF.out.symm,hq.setCell (Nat.le_refl _) _⟩,by simp[intOf];omega⟩;have hv:=HV.out;rw[HD.out]at hv;rw[dK _ (by rw[HL.out];omega),yJ,HD.out,hD2];exact aBJ (y:=0) HG.out hv (by simp)
   ·obtain rfl:i=n:=(by omega);go_wp2_with fail
    refine (pI _ _ (w.heap.size+1) _ _ _ HL.out (Nat.le_refl _) (by omega) (hb.rd (Nat.lt_succ_self _))).mono ?_;rintro e w2 ⟨k2,hk2,rfl,hnz,hv,rfl⟩;go_wp2
    go_ret
    refine⟨_,rfl,Nn.of_blk hb hk2 (by rw[HL.out]at hk2;exact hk2) hnz ho ?_,hq,Nw.at_ (Nat.le_refl _)⟩;rw[hv];have h:=HV.out;rw[List.take_of_length_le (by rw[HL.out];omega),List.take_of_length_le (by rw[HZ.out];omega),show zl.getD i 0=0 by rw[List.getD_eq_getElem?_getD,List.getElem?_eq_none (by rw[HZ.out];omega)];rfl,Nat.zero_mod,Nat.mul_zero,Nat.add_zero]at h;rw[←h,Nat.mul_add_div hf0,Nat.div_eq_of_lt (Nat.mod_lt _ hf0),Nat.add_zero]
theorem aDD(x y:Value)(M N:Nat)(w:World)(hx:Nr w x M)(hy:Nr w y N)(hN:0<N)(lM:dg B30 M+40≤LIM)(lN:dg B30 N+40≤LIM):
  Calls Tryz.prog 129 #[x,y] w fun e w'=>∃u v,e=.returned (.tuple #[u,v])∧Nr w' u (M/N)∧Nr w' v (M % N)∧Q w w':=by
 rcases Nat.lt_or_ge M N with hlt|hge
 ·have hc:=fB hlt;have HC:=hZ hc;clear hc;go_enter Tryz.func129,Tryz.ntmps129
  go_wp2_with fail
  refine (mX _ _ M N _ hx hy (by omega) (by omega)).mono ?_;rintro e w1 ⟨rfl,hq1⟩;rw[HC.out];go_wp2
  go_ret2
  rw[Nat.div_eq_of_lt hlt,Nat.mod_eq_of_lt hlt];exact⟨_,_,rfl,Nn.zero _ _,hx.q hq1,hq1⟩
 ·have hc:0≤cmp M N:=by
   unfold cmp;rw[if_neg (by omega)];split<;>omega
  obtain⟨k,hk⟩:∃k,k=(30-bl N % 30) % 30:=⟨_,rfl⟩
  have hk30:k<30:=(by omega);have hki:(k:Int)=(30-(bl N:Int) % 30) % 30:=(by omega);have HK:=hZ hki;clear hki hk;go_enter Tryz.func129,Tryz.ntmps129
  go_wp2_with fail
  refine (mX _ _ M N _ hx hy (by omega) (by omega)).mono ?_;rintro e w1 ⟨rfl,hq1⟩;have hx1:=hx.q hq1;have hy1:=hy.q hq1;go_wp2_with fail
  refine (aNb _ N _ hy1 (by omega)).mono ?_;rintro e w1 ⟨rfl,rfl⟩;go_wp2_with fail
  have hp1:dg B30 (2^k)≤1:=by
   refine gK aI ?_;rw[Nat.pow_one];exact Nat.lt_of_le_of_lt (Nat.pow_le_pow_right (by decide) (show k≤29 by omega)) (by decide)
  have l1:=dC aI M (2^k);have l2:=dC aI N (2^k);refine (aAb _ M k _ _ hx1 (by have:=HK.out;omega) (by omega)).mono ?_;rintro e w2 ⟨va,rfl,ha,hq2,-⟩;go_wp2_with fail
  refine (aAb _ N k _ _ (hy1.q hq2) (by have:=HK.out;omega) (by omega)).mono ?_;rintro e w3 ⟨vb,rfl,hb,hq3,-⟩;have ha3:=ha.q hq3;clear ha hx hy hx1 hy1;have hq:=(hq1.trans hq2).trans hq3;clear hq1 hq2 hq3;have hf0:0<2^k:=Nat.pow_pos (by decide);have hV0:0<N*2^k:=Nat.mul_pos hN hf0;have hb3:=hb;obtain⟨A,c,xs,rfl,hcx,rx,wx,hvx⟩:=ha3;obtain⟨B,d,ys,rfl,hcy,ry,wy,hvy⟩:=hb;have lx:=wx.len aI;have ly:=wy.len aI;rw[hvx]at lx;rw[hvy]at ly;have hmk:=wH xs.length (xs.length:Int) rfl (by omega);have lxs:xs.length+30≤1099511627776:=(by have:=aB;omega);have lys:ys.length+30≤1099511627776:=(by have:=aB;omega);have hys0:0<ys.length:=by
   rcases Nat.eq_zero_or_pos ys.length with h0|h0
   ·rw[ly]at h0;have:=bM aI h0;omega
   ·exact h0
  have HX:=hZ hvx;clear hvx;have HY:=hZ hvy;clear hvy;have LX:=hZ lx;clear lx;have LY:=hZ ly;clear ly;obtain⟨i0,hi0,hz0,hz1,hz2⟩:=info_parts xW;go_wp2
  clear hmk hb3 hc lM lN l1 l2 hp1
  go_loopw [9,10] (fun rv iv w4=>∃(j R:Nat) (out:List Nat),j≤xs.length∧iv=.int .i64 ((j:Int)-1)∧Nr w4 rv R∧R<N*2^k∧
      vl B30 (xs.drop j)=vl B30 (out.drop j)*(N*2^k)+R∧out.take j=List.replicate j 0∧out.length=xs.length∧(∀d∈out,d<B30)∧
      Blk .i64 w4 w3.heap.size 2 out∧Q w3 w4) (fun _ iv _=>(intOf iv+1).toNat)
  case atStart=>
   exact⟨xs.length,0,List.replicate xs.length 0,by omega,rfl,Nn.zero _ _,hV0,by simp[vl],by simp,by simp,fA (by decide),Blk.made _ _ _,(Q.refl _).alloc _⟩
  case round=>
   obtain⟨j,R,out,hj,rfl,hr,hR,hv,htk,hl,ho,hbk,hq4⟩:=hrel;have HV:=hZ hv;clear hv;have HL:=hZ hl;clear hl;have HT:=hZ htk;clear htk;by_cases hlt:0<j
   ·obtain⟨i,rfl⟩:∃i,j=i+1:=⟨j-1,by omega⟩
    rw[show ((i+1:Nat):Int)-1=(i:Int) from by omega];obtain⟨ad,rfl,hbx,hcx'⟩:=(rx.below hq4).at_ (k:=i) (by omega);have bx:xs[i]<1073741824:=wx.1 _ (List.getElem_mem _);have HD:=hZ (dP B30 (show i<xs.length by omega));generalize xs[i]=a at*
    obtain⟨A2,c2,rs,rfl,hc2,rr,wr2,hvr⟩:=hr;have HR:=hZ hvr;clear hvr;have lrs:rs.length≤ys.length:=by
     have:=wr2.len aI;rw[HR.out]at this;rw[this,LY.out];exact bK aI (Nat.le_of_lt hR)
    go_wp2_with (at_builtin;go_loud (refine aBO rfl _ _ _ rfl (w3.heap.size+1) 2 i0 (.int .i64 0) 8 Tryz.underlying43 hi0 hz0 hz1 hz2 rfl _ 1 [a] rfl (aL9 _ _ _ a rfl hbk.lt) wr.heap.size A2 rs.length c2 rs rfl rfl (rr.alloc (Nat.le_refl _) _) (by unfold maxLen;omega) (by omega) (by have:=hbk.lt;simp;omega) ?_);intro v5 w5 hown hg5 hat)
    obtain⟨g2,cap2,rfl,hg2,hg2lt,hn2,hm2,hl2,hrd2⟩:=aG0 hown (by omega);have hq5:Q wr w5:=Q.grown ((Q.refl wr).alloc _) hg5 (fun k e=>Nat.le_of_eq (Option.some.inj e));refine (pI _ _ w5.heap.size _ ([a]++rs) _ hl2 hn2 (by omega) hrd2).mono ?_;rintro e w6 ⟨k6,hk6,rfl,hnz6,hv6,rfl⟩;have hR0:a+B30*R<N*2^k*B30:=aJo (by rw[aS];exact bx) hR;have hr6:Nr w5 (.slice (some ⟨g2,0,none⟩) k6 cap2) (a+B30*R):=by
     refine⟨some ⟨g2,0,none⟩,cap2,([a]++rs).take k6,?_,?_,hrd2.take k6,⟨aQ ?_,hnz6⟩,?_⟩
     ·rw[List.length_take,Nat.min_eq_left hk6]
     ·rw[List.length_take,Nat.min_eq_left hk6];omega
     ·intro d hd;simp only[List.singleton_append,List.mem_cons]at hd;rcases hd with rfl|hd
      ·rw[aS];exact bx
      ·exact wr2.1 d hd
     ·rw[hv6,List.singleton_append,eZ,HR.out]
    have hnw6:Nw (w3.heap.size+1) (.slice (some ⟨g2,0,none⟩) k6 cap2):=Nw.at_ hg2;generalize Value.slice (some ⟨g2,0,none⟩) k6 cap2=v6 at*
    have hbk5:=hbk.q hq5;have hq35:=hq4.trans hq5;clear hown hg5 hat hrd2 hbk hq4 hq5;have ho0:out[i]? =some 0:=by
     have h1:(out.take (i+1))[i]? =some 0:=by rw[HT.out];simp
     rwa [List.getElem?_take_of_lt (Nat.lt_succ_self _)]at h1
    have hset0:out.set i 0=out:=by
     obtain⟨hi,he⟩:=List.getElem?_eq_some_iff.1 ho0;rw[←he,List.set_getElem_self]
    have HS:=hZ hset0;clear hset0;have HO:=hZ ho0;clear ho0;go_wp2
    obtain⟨wo,rfl⟩:∃wo:World,wo=w5:=⟨_,rfl⟩
    go_loopg [9] (a+B30*R) (fun gk rv w7=>∃o,Nr w7 rv gk∧Nw (w3.heap.size+1) rv∧o*(N*2^k)+gk=a+B30*R∧Blk .i64 w7 w3.heap.size 2 (out.set i o)∧Q w3 w7)
    case atStart=>exact⟨0,hr6,hnw6,by omega,by rw[HS.out];exact hbk5,hq35⟩
    case round=>
     obtain⟨w7,rfl⟩:∃w7:World,w7=wr:=⟨_,rfl⟩
     obtain⟨o,hrr,hnw,hsum,hbk7,hq7⟩:=hrel;have HSUM:=hZ hsum;clear hsum;have ho1:o<B30:=aDl HSUM.out hR0;have hb7:Nr w7 (.slice B ys.length d) (N*2^k):=⟨B,d,ys,rfl,hcy,ry.q hq7,wy,HY.out⟩
     have hgk:dg B30 gk≤ys.length+1:=aOw aI HSUM.out hR0 LY.out;rcases Nat.lt_or_ge gk (N*2^k) with hlt8|hge8
     ·have HC:=hZ (fB hlt8);go_wp2_with fail
      refine (mX _ _ gk (N*2^k) _ hrr hb7 (by rw[aB];omega) (by rw[←LY.out,aB];omega)).mono ?_;rintro e w8 ⟨rfl,hq8⟩;rw[HC.out];go_wp2
      refine⟨⟨i,gk,out.set i o,by omega,rfl,hrr.q hq8,hlt8,?_,?_,by rw[List.length_set,HL.out],eH ho ho1,hbk7.q hq8,hq7.trans hq8⟩,by simp[intOf]⟩
      ·have hi:i<out.length:=(by rw[HL.out];omega);rw[HD.out,HV.out,dP B30 (ds:=out.set i o) (j:=i) (by rw[List.length_set];exact hi),List.getElem_set_self,drop_set (by omega)];exact aBj HSUM.out
      ·rw[List.take_set_of_le (Nat.le_refl _)];have h1:=congrArg (List.take i) HT.out;rw[List.take_take,Nat.min_eq_left (by omega),List.take_replicate,Nat.min_eq_left (by omega)]at h1;exact h1
     ·have hc:0≤cmp gk (N*2^k):=by
       unfold cmp;rw[if_neg (by omega)];split<;>omega
      go_wp2_with fail
      refine (mX _ _ gk (N*2^k) _ hrr hb7 (by rw[aB];omega) (by rw[←LY.out,aB];omega)).mono ?_;rintro e w8 ⟨rfl,hq8⟩;generalize cmp gk (N*2^k)=cv at*
      have hrr8:=hrr.q hq8;have hb8:=hb7.q hq8;obtain⟨A7,c7,r7,rfl,hc7,rr7,wr7,hv7⟩:=hrr8;have l7:=wr7.len aI;rw[hv7]at l7;have HV7:=hZ hv7;have l7a:ys.length≤r7.length:=(by rw[l7,LY.out];exact bK aI hge8);have l7b:r7.length≤ys.length+1:=(by omega);have lgk:dg B30 gk+1≤LIM:=(by rw[aB];omega);clear hgk l7;have hn1:ys.length-1<r7.length:=(by omega);have hn2:ys.length-1<ys.length:=(by omega);obtain⟨a7,rfl,hba7,hca7⟩:=rr7.at_ hn1;obtain⟨a8,rfl,hba8,hca8⟩:=(ry.below (hq7.trans hq8)).at_ hn2;have bt7:r7[ys.length-1]<1073741824:=wr7.1 _ (List.getElem_mem _);have bt8:ys[ys.length-1]<1073741824:=wy.1 _ (List.getElem_mem _);have ebt:ys[ys.length-1]=N*2^k/B30^(ys.length-1):=by
       rw[←HY.out,←jA (by decide) (by omega) wy.1];exact (drop_one (by omega)).symm
      have HBT:=hZ ebt;clear ebt;have hVd:N*2^k/B30^(ys.length-1)<1073741824:=(by rw[←HBT.out];exact bt8);have hP:0<B30^(ys.length-1):=Nat.pow_pos (by decide);have HG:=aLL (R:=gk) (V:=N*2^k) hP;have hnw7:=hnw a7 r7.length c7 rfl;rcases Nat.lt_or_ge ys.length r7.length with h8|h8
      case' inl=>
       obtain⟨a9,e9,hba9,hca9⟩:=rr7.at_ h8;cases e9;have bt9:r7[ys.length]<1073741824:=wr7.1 _ (List.getElem_mem _);have etop:r7[ys.length-1]+B30*r7[ys.length]=gk/B30^(ys.length-1):=by
        rw[←HV7.out,←jA (by decide) (by omega) wr7.1,wU (n:=ys.length-1) (by omega)];simp only[show ys.length-1+1=ys.length by omega]
       rw[←etop,←HBT.out]at HG;have hdq:((r7[ys.length-1]:Int)+(r7[ys.length]:Int)*1073741824)/((ys[ys.length-1]:Int)+1)=(((r7[ys.length-1]+B30*r7[ys.length])/(ys[ys.length-1]+1):Nat):Int):=by
        rw[aS,Int.natCast_ediv,Int.natCast_add,Int.natCast_add,Int.natCast_mul,Int.mul_comm];rfl
       generalize (r7[ys.length-1]+B30*r7[ys.length])/(ys[ys.length-1]+1)=dq at*
       clear etop;generalize r7[ys.length]=t2 at*
      case' inr=>
       have etop:r7[ys.length-1]=gk/B30^(ys.length-1):=by
        rw[←HV7.out,←jA (by decide) (by omega) wr7.1];exact (drop_one (by omega)).symm
       rw[←etop,←HBT.out]at HG;have hdq:(r7[ys.length-1]:Int)/((ys[ys.length-1]:Int)+1)=((r7[ys.length-1] / (ys[ys.length-1]+1):Nat):Int):=by
        rw[Int.natCast_ediv,Int.natCast_add];rfl
       generalize r7[ys.length-1] / (ys[ys.length-1]+1)=dq at*
       clear etop
      all_goals
       clear HBT hVd;generalize r7[ys.length-1]=t1 at*
       generalize ys[ys.length-1]=bt at*
       have hcq:=(hbk7.q hq8).cell (i:=i) (by rw[List.length_set,HL.out];omega);rw[List.getElem_set_self]at hcq;have hfq:=(hbk7.q hq8).frozen i;have hd:∃d:Nat,1≤d∧d*(N*2^k)≤gk∧(dq=0∧d=1∨1≤dq∧d=dq):=by
        rcases Nat.eq_zero_or_pos dq with h0|h0
        ·exact⟨1,Nat.le_refl _,by omega,Or.inl ⟨h0,rfl⟩⟩
        ·exact⟨dq,h0,HG,Or.inr ⟨h0,rfl⟩⟩
       obtain⟨d,hd1,hdV,hdq2⟩:=hd;have hob:o+d<B30:=aDl (g:=gk-d*(N*2^k)) (by rw[Nat.add_mul];have:=HSUM.out;omega) hR0;have ho3:o<1073741824:=(by rw[aS]at ho1;exact ho1);have hd3:d<1073741824:=(by rw[aS]at hob;omega);have hQ9:∀u,Q w3 (w8.setCell ⟨w3.heap.size,i,none⟩ u):=fun u=>(hq7.trans hq8).setCell (Nat.le_refl _) u;have hR9:∀u,Nr (w8.setCell ⟨w3.heap.size,i,none⟩ u) (.slice (some a7) r7.length c7) gk:=fun u=>
        ⟨some a7,c7,r7,rfl,hc7,(fun hn=>by
         obtain⟨ad,e,hb,hc,cs9,fr9,ht9⟩:=rr7 hn;cases e;refine⟨a7,rfl,by simpa [World.setCell] using hb,fun j d hd=>?_,cs9,fr9,(Below.heap_setCell _ _ _ _ (by simp;omega)).trans ht9⟩;rw[World.cell?_setCell_other _ _ _ _ (by intro e;have:=congrArg Addr.block e;rw[iJ]at this;simp at this;omega)];exact hc j d hd),wr7,HV7.out⟩
       have hB9:∀u:Int,u=((o+d:Nat):Int)→Blk .i64 (w8.setCell ⟨w3.heap.size,i,none⟩ (.int .i64 u)) w3.heap.size 2 (out.set i (o+d)):=fun u hu=>by
        have h:=(hbk7.q hq8).put i (o+d) hu
        rwa [List.set_set]at h
       have hsum2:(o+d)*(N*2^k)+(gk-N*2^k*d)=a+B30*R:=by
        rw[Nat.add_mul,Nat.mul_comm (N*2^k) d];have:=HSUM.out;omega
       have HS2:=hZ hsum2;clear hsum2;have hle9:N*2^k*d≤gk:=(by rw[Nat.mul_comm];exact hdV);have ldd:dg B30 d≤1:=gK aI (by rw[Nat.pow_one,aS];omega);have lV:dg B30 (N*2^k)+dg B30 d+2≤LIM:=(by rw[←LY.out,aB];omega);have hdq3:dq<1073741824:=(by omega);rcases hdq2 with⟨rfl,hdd⟩|⟨hdq1,hdd⟩
      all_goals
       have HDD:=hZ hdd;clear hdd;go_wp2_with fail
       refine (aAX _ d _ (by have:=HDD.out;omega) (by omega)).mono ?_;rintro e w10 ⟨vs,rfl,hs,hq10,-⟩;have hR10:=(hR9 _).q hq10;have hB10:=(hB9 _ (by have:=HDD.out;omega)).q hq10;have hq310:=(hQ9 _).trans hq10;clear hR9 hB9 hQ9 hq10;go_wp2_with fail
       refine (aC8 _ _ (N*2^k) d _ ⟨some a8,_,ys,rfl,hcy,ry.q hq310,wy,HY.out⟩ hs lV).mono ?_;rintro e w11 ⟨vt,rfl,ht,hq11,-⟩;go_wp2_with fail
       refine (aAW _ _ gk (N*2^k*d) _ (hR10.q hq11) ht hle9 lgk).mono ?_;rintro e w12 ⟨vm,rfl,hm,hq12,hnwm⟩;have hB12:=hB10.q (hq11.trans hq12);have hq312:=hq310.trans (hq11.trans hq12);have hnw12:Nw (w3.heap.size+1) vm:=hnwm.more (by have:=hB10.lt;have:=hq11.size;omega);clear hB10 hq310 hR10 ht hs hq11 hq12 hnwm hcq hfq hca7 hca8;go_wp2_with fail
       go_roundg (gk-N*2^k*d)
       case measure=>
        have:1*(N*2^k)≤d*(N*2^k):=Nat.mul_le_mul_right _ hd1;rw[Nat.mul_comm d]at this;omega
       case rel=>exact⟨o+d,hm,hnw12,HS2.out,hB12,hq312⟩
   ·obtain rfl:j=0:=(by omega);rw[show ((0:Nat):Int)-1=-1 from by omega];go_wp2_with fail
    refine (pI _ _ (w3.heap.size+1) _ _ _ HL.out (Nat.le_refl _) (by omega) (hbk.rd (Nat.lt_succ_self _))).mono ?_;rintro e w5 ⟨k5,hk5,rfl,hnz,hvq,rfl⟩;have hfin:=HV.out;rw[List.drop_zero,List.drop_zero,HX.out]at hfin;obtain⟨hq1,hq2,hq3⟩:=aH0 hf0 hfin hR;have hRlen:dg B30 R≤LIM:=by
     have h1:=bK aI (Nat.le_of_lt hR);rw[←LY.out]at h1;rw[aB];omega
    have hqv:Nr wr (.slice (some ⟨w3.heap.size,0,none⟩) k5 xs.length) (M/N):=by
     refine Nn.of_blk hbk hk5 (by rw[HL.out]at hk5;exact hk5) hnz ho ?_;rw[hvq,hq1]
    have HQ2:=hZ hq2;clear hq1 hq2 hq3 hfin;go_wp2_with fail
    refine (wJ _ R k _ _ hr (by have:=HK.out;omega) hRlen (by omega)).mono ?_;rintro e w6 ⟨vr,rfl,hvr,hq6,-⟩;go_wp2_with fail
    go_ret2
    exact⟨_,_,rfl,hqv.q hq6,by rw[HQ2.out];exact hvr,(hq.trans hq4).trans hq6⟩
theorem aLg(x y:Value)(M N:Nat)(w:World)(hx:Nr w x M)(hy:Nr w y N)(hN:0<N)(lM:31*dg B30 M+80≤LIM)(lN:31*dg B30 N+80≤LIM):
  Calls Tryz.prog 93 #[x,y] w fun e w'=>∃v,e=.returned v∧Nr w' v (Nat.gcd M N)∧Q w w':=by
 have HG0:=hZ (rU M N);have hR:M % N<N:=Nat.mod_lt _ hN;go_enter Tryz.func93,Tryz.ntmps93
 go_wp2_with fail
 refine (aDD _ _ M N _ hx hy hN (by omega) (by omega)).mono ?_;rintro e w1 ⟨vq,vr,rfl,hq,hr,hq1⟩;have hy1:=hy.q hq1;have lR:31*dg B30 (M % N)+80≤LIM:=by have:=bK aI (Nat.le_of_lt hR);omega
 have HE:=hZ (rfl:M % N=M % N);clear hq hx;generalize M % N=R at*
 obtain⟨A,c,rs,rfl,hc,rr,wr1,hvr⟩:=hr;have lr:=wr1.len aI;rw[hvr]at lr;have HR:=hZ hvr;clear hvr;rcases Nat.eq_zero_or_pos R with h0|h0
 ·subst h0;rw[aU]at lr;have e0:((rs.length:Int) == 0)=true:=(by simp[lr]);clear lr;go_wp2_with fail
  go_ret
  rw[←HG0.out,Nat.gcd_zero_left];exact⟨_,rfl,hy1,hq1⟩
 ·have e0:((rs.length:Int) == 0)=false:=by
   have:dg B30 R≠0:=fun h=>(by have:=bM aI h;omega);exact beq_eq_false_iff_ne.2 (by omega)
  have hrn:Nr w1 (.slice A rs.length c) R:=⟨A,c,rs,rfl,hc,rr,wr1,HR.out⟩
  clear rr wr1 lr;go_wp2_with fail
  refine (aAY _ R _ hrn (by omega) h0).mono ?_;rintro e w2 ⟨rfl,rfl⟩;go_wp2_with fail
  refine (aAY _ N _ hy1 (by omega) hN).mono ?_;rintro e w2 ⟨rfl,rfl⟩;have hGP:=mG h0 hN;rw[HG0.out]at hGP;have HGP:=hZ hGP;clear hGP HG0 HE;have oR:=(iP h0).2;have oN:=(iP hN).2;have tR:tz R≤30*dg B30 R:=Nat.le_trans (Nat.le_of_lt (jP h0)) (kM 30 R (by decide));have tN:tz N≤30*dg B30 N:=Nat.le_trans (Nat.le_of_lt (jP hN)) (kM 30 N (by decide));have lim:=aB;have dR:=bK aI (Nat.div_le_self R (2^tz R));have dN:=bK aI (Nat.div_le_self N (2^tz N));have LM:=hZ lim;clear lim;have tR2:tz R≤4611686018427387904:=(by have:=LM.out;omega);have tN2:tz N≤4611686018427387904:=(by have:=LM.out;omega);go_wp2_with fail
  refine (wJ _ R (tz R) _ _ hrn rfl (by omega) tR2).mono ?_;rintro e w2 ⟨va,rfl,ha,hq2,-⟩;go_wp2_with fail
  refine (wJ _ N (tz N) _ _ (hy1.q hq2) rfl (by omega) tN2).mono ?_;rintro e w3 ⟨vb,rfl,hb,hq3,-⟩;have ha3:=ha.q hq3;have hq13:=(hq1.trans hq2).trans hq3;clear ha hq1 hq2 hq3 hrn hy1 hy;have hml:min (tz R) (tz N)≤tz N:=Nat.min_le_right _ _;obtain⟨L,hLe⟩:∃L,L=max (dg B30 R) (dg B30 N):=⟨_,rfl⟩
  have lL:31*L+80≤LIM:=(by omega);have dR:dg B30 (R/2^tz R)≤L:=(by omega);have dN:dg B30 (N/2^tz N)≤L:=(by omega);have tmin:min (tz R) (tz N)≤30*L:=(by omega);clear hLe lM lN lR hR e0;generalize R/2^tz R=a0 at*
  generalize N/2^tz N=b0 at*
  generalize tz R=ti at*
  generalize tz N=tk at*
  have HTM:=hZ tmin;clear tmin hml;go_wp2_with fail
  go_loopg [0,1] (a0+b0) (fun gk va vb w4=>∃a b,Nr w4 va a∧Nr w4 vb b∧a % 2=1∧b % 2=1∧Nat.gcd a b=Nat.gcd a0 b0∧gk=a+b∧dg B30 a≤L∧dg B30 b≤L∧Q w3 w4)
  case atStart=>exact⟨a0,b0,ha3,hb,oR,oN,rfl,rfl,dR,dN,Q.refl _⟩
  case round=>
   obtain⟨w4,rfl⟩:∃w4:World,w4=wr:=⟨_,rfl⟩
   obtain⟨a,b,hva,hvb,oa,ob,hgcd,hgk,la,lb,hq4⟩:=hrel;have HOA:=hZ oa;have HOB:=hZ ob;have HGC:=hZ hgcd;have HGK:=hZ hgk;clear oa ob hgcd hgk oR oN;obtain⟨A4,c4,da,rfl,hc4,ra4,wa4,hv4⟩:=hva;obtain⟨B4,d4,db,rfl,hd4,rb4,wb4,hw4⟩:=hvb;have lea:=wa4.len aI;have leb:=wb4.len aI;rw[hv4]at lea;rw[hw4]at leb;have hna:Nr w4 (.slice A4 da.length c4) a:=⟨A4,c4,da,rfl,hc4,ra4,wa4,hv4⟩
   have hnb:Nr w4 (.slice B4 db.length d4) b:=⟨B4,d4,db,rfl,hd4,rb4,wb4,hw4⟩
   have HLA:=hZ lea;have HLB:=hZ leb;have hcase:(da.length≤2∧db.length≤2)∨2<da.length∨da.length≤2∧2<db.length:=(by omega);clear lea leb hv4 hw4 ra4 rb4 wa4 wb4;rcases hcase with⟨h2,h2b⟩|h2|⟨h2,h2b⟩
   ·have bA:dg B30 a≤2:=(by rw[←HLA.out];exact h2);have bB:dg B30 b≤2:=(by rw[←HLB.out];exact h2b);go_wp2_with fail
    refine (aHD _ a _ hna bA).mono ?_;rintro e w5 ⟨rfl,rfl⟩;go_wp2_with fail
    refine (aHD _ b _ hnb bB).mono ?_;rintro e w5 ⟨rfl,rfl⟩;have p2:B30^2=1152921504606846976:=(by decide);have ba:a<1152921504606846976:=(by have:=(aK aI a 2).1 bA;rw[p2]at this;exact this);have bb:b<1152921504606846976:=(by have:=(aK aI b 2).1 bB;rw[p2]at this;exact this);clear p2 bA bB;go_wp2_with fail
    obtain⟨wo,rfl⟩:∃wo:World,wo=w4:=⟨_,rfl⟩
    go_loopw [8,9] (fun xv yv w5=>∃p q:Nat,xv=.int .i64 (p:Int)∧yv=.int .i64 (q:Int)∧p<1152921504606846976∧q<1152921504606846976∧Nat.gcd p q=Nat.gcd a0 b0∧∃m,w5=wo.drewN m) (fun _ yv _=>(intOf yv).toNat)
    case atStart=>exact⟨a,b,rfl,rfl,ba,bb,HGC.out,0,rfl⟩
    case round=>
     obtain⟨p,q,rfl,rfl,hp,hq,hpq,m,rfl⟩:=hrel;have HPQ:=hZ hpq;clear hpq;rcases Nat.eq_zero_or_pos q with h0|h0
     ·subst h0;have hpe:p=Nat.gcd a0 b0:=(by have:=HPQ.out;rwa [Nat.gcd_zero_right]at this);have HP:=hZ hpe;clear hpe;go_wp2_with fail
      refine (aAX _ p _ rfl (by omega)).mono ?_;rintro e w6 ⟨vs,rfl,hs,hq6,-⟩;have hqq:Q w3 w6:=(hq4.drewN m).trans hq6;have ldp:dg B30 p≤2:=gK aI (by rw[show B30^2=1152921504606846976 by decide];exact hp);have lim1:dg B30 p+min ti tk+2≤LIM:=(by have:=HTM.out;omega);rcases Nat.lt_trichotomy ti tk with ht|rfl|ht;all_goals
       go_wp2_with fail
       refine (aAb _ p (min _ _) _ _ hs (by omega) lim1).mono ?_;rintro e w7 ⟨vf,rfl,hf,hq7,-⟩;go_wp2_with fail
       go_ret
       refine⟨_,rfl,?_,(hq13.trans hqq).trans hq7⟩;rw[HGP.out,←HP.out,Nat.mul_comm];exact hf
     ·have hne:((q:Int) != 0)=true:=(by simp;omega);have hpm:p % q<q:=Nat.mod_lt _ h0;have hgm:Nat.gcd q (p % q)=Nat.gcd a0 b0:=(by rw[Nat.gcd_comm,rU];exact HPQ.out);have HGM:=hZ hgm;clear hgm;go_wp2_with fail
      go_quiet (fail)
      go_wp2_with fail
      exact⟨⟨q,p % q,rfl,congrArg (Value.int _) (Int.natCast_emod _ _).symm,hq,by omega,HGM.out,_,by rw[World.drewN_drewN]⟩,by simp[intOf];omega⟩
   all_goals
    have step:∀(p q:Nat) (vp vq2:Value) (w5:World),q<p→p % 2=1→q % 2=1→Nat.gcd p q=Nat.gcd a0 b0→dg B30 p≤L→dg B30 q≤L→Nr w5 vp p→Nr w5 vq2 q→
        Nat.gcd ((p-q)/2^tz (p-q)) q=Nat.gcd a0 b0∧((p-q)/2^tz (p-q)) % 2=1∧(p-q)/2^tz (p-q)<p∧dg B30 ((p-q)/2^tz (p-q))≤L∧dg B30 (p-q)≤L∧tz (p-q)≤4611686018427387904:=by
     intro p q vp vq2 w5 h1 h2 h3 h4 h5 h6 _ _;have hst:=aBk h2 h3 h1;have ldm:=bK aI (Nat.sub_le p q);have ldd:=bK aI (Nat.div_le_self (p-q) (2^tz (p-q)));refine⟨hst.1.trans h4,hst.2.1,hst.2.2,by omega,by omega,?_⟩;have h7:=jP (show 0<p-q by omega);have h8:=kM 30 (p-q) (by decide);change bl (p-q)≤30*dg B30 (p-q) at h8;have:=LM.out;omega
    rcases Nat.lt_trichotomy a b with hab|hab|hab
    ·have HC:=hZ (fB hab);obtain⟨s1,s2,s3,s4,s5,s6⟩:=step b a _ _ w4 hab HOB.out HOA.out (by rw[Nat.gcd_comm];exact HGC.out) lb la hnb hna;have S1:=hZ s1;have S2:=hZ s2;clear s1 s2 step;go_wp2_with fail
     refine (mX _ _ a b _ hna hnb (by omega) (by omega)).mono ?_;rintro e w5 ⟨rfl,hq5⟩;rw[HC.out];go_wp2_with fail
     refine (aAW _ _ b a _ (hnb.q hq5) (hna.q hq5) (by omega) (by omega)).mono ?_;rintro e w6 ⟨vm,rfl,hm,hq6,-⟩;go_wp2_with fail
     refine (aAY _ (b-a) _ hm (by omega) (by omega)).mono ?_;rintro e w7 ⟨rfl,rfl⟩;go_wp2_with fail
     refine (wJ _ (b-a) (tz (b-a)) _ _ hm rfl (by omega) s6).mono ?_;rintro e w8 ⟨vn,rfl,hn,hq8,-⟩;have hqq:=(hq5.trans hq6).trans hq8;go_wp2_with fail
     go_roundg ((b-a)/2^tz (b-a)+a)
     case measure=>have:=HGK.out;omega
     case rel=>exact⟨_,a,hn,hna.q hqq,S2.out,HOA.out,S1.out,rfl,s4,la,hq4.trans hqq⟩
    ·subst hab;have HC:=hZ (cmp_eq a);have hg1:a=Nat.gcd a0 b0:=(by have:=HGC.out;rwa [Nat.gcd_self]at this);have HP:=hZ hg1;clear step hg1;have lim1:dg B30 a+min ti tk+2≤LIM:=(by have:=HTM.out;omega);go_wp2_with fail
     refine (mX _ _ a a _ hna hnb (by omega) (by omega)).mono ?_;rintro e w5 ⟨rfl,hq5⟩;rw[HC.out];have hna5:=hna.q hq5;rcases Nat.lt_trichotomy ti tk with ht|rfl|ht;all_goals
      go_wp2_with fail
      refine (aAb _ a (min _ _) _ _ hna5 (by omega) lim1).mono ?_;rintro e w7 ⟨vf,rfl,hf,hq7,-⟩;go_wp2_with fail
      go_ret
      refine⟨_,rfl,?_,(hq13.trans (hq4.trans hq5)).trans hq7⟩;rw[HGP.out,←HP.out,Nat.mul_comm];exact hf
    ·have HC:=hZ (kJ hab);obtain⟨s1,s2,s3,s4,s5,s6⟩:=step a b _ _ w4 hab HOA.out HOB.out HGC.out la lb hna hnb;have S1:=hZ s1;have S2:=hZ s2;clear s1 s2 step;go_wp2_with fail
     refine (mX _ _ a b _ hna hnb (by omega) (by omega)).mono ?_;rintro e w5 ⟨rfl,hq5⟩;rw[HC.out];go_wp2_with fail
     refine (aAW _ _ a b _ (hna.q hq5) (hnb.q hq5) (by omega) (by omega)).mono ?_;rintro e w6 ⟨vm,rfl,hm,hq6,-⟩;go_wp2_with fail
     refine (aAY _ (a-b) _ hm (by omega) (by omega)).mono ?_;rintro e w7 ⟨rfl,rfl⟩;go_wp2_with fail
     refine (wJ _ (a-b) (tz (a-b)) _ _ hm rfl (by omega) s6).mono ?_;rintro e w8 ⟨vn,rfl,hn,hq8,-⟩;have hqq:=(hq5.trans hq6).trans hq8;go_wp2_with fail
     go_roundg ((a-b)/2^tz (a-b)+b)
     case measure=>have:=HGK.out;omega
     case rel=>exact⟨_,b,hn,hnb.q hqq,S2.out,HOB.out,S1.out,rfl,s4,lb,hq4.trans hqq⟩
theorem aAc(W:World)(E:Int):(convert 155 9 (.slice (some ⟨W.heap.size,0,none⟩) 1 1)).run Tryz.prog (W.alloc (.cells #[.int .u8 E] 5))=
  .ok (.string (strOfNums [E])) (W.alloc (.cells #[.int .u8 E] 5)):=by
 refine run_convert_bytes_arg (P:=Tryz.prog) _ 155 5 Tryz.underlying155 Tryz.underlying5 _ 0 1 1 [E] rfl ?_ 9 Tryz.underlying9;intro i hi;obtain rfl:i=0:=by omega
 exact eX _ _ _
theorem aHE(q:Nat)(p:ByteArray)(E:Int)(hE:E=((48+q:Nat):Int)):(strOfNums [E]++p).data.toList=dig q::p.data.toList:=by
 subst hE;rw[ByteArray.data_append,Array.toList_append,strOfNums_data];simp only[List.map_cons,List.map_nil,Int.toNat_natCast];rfl
theorem nN(E:Int):(strOfNums [E]).size=1:=by rw[strOfNums_size];rfl
theorem aLh(x:Value)(N:Nat)(w:World)(hx:Nr w x N)(lN:dg B30 N+1≤LIM):
  Calls Tryz.prog 133 #[x] w fun e w'=>∃t:ByteArray,e=.returned (.string t)∧t.data.toList=dec N∧Q w w':=by
 obtain⟨A,c,xs,rfl,hc,rx,wx,hv⟩:=hx;have hl:=wx.len aI;rw[hv]at hl;rcases Nat.eq_zero_or_pos N with h0|h0
 ·subst h0;rw[aU]at hl;have h1:((xs.length:Int) == 0)=true:=(by rw[hl];rfl);clear hl;go_enter Tryz.func133,Tryz.ntmps133
  go_wp2_with fail
  go_ret
  exact⟨_,rfl,by rw[gL (by decide)];rfl,Q.refl _⟩
 ·have h1:((xs.length:Int) == 0)=false:=by
   refine beq_eq_false_iff_ne.2 ?_;have:dg B30 N≠0:=fun h=>(by have:=bM aI h;omega);omega
  rw[aB]at lN;have hL:xs.length+1≤1099511627776:=(by omega);have hx0:Nr w (.slice A xs.length c) N:=⟨A,c,xs,rfl,hc,rx,wx,hv⟩
  clear hl hv rx wx;go_enter Tryz.func133,Tryz.ntmps133
  go_wp2_with fail
  go_loopg [0,3] N (fun gk av sv w1=>∃(t:ByteArray),sv=.string t∧t.size≤10995116277760∧Nr w1 av gk∧dg B30 gk+1≤1099511627776∧(0<gk∧dec N=dec gk++t.data.toList∨gk=0∧dec N=t.data.toList)∧Q w w1)
  case atStart=>exact⟨ByteArray.empty,rfl,by simp,hx0,lN,Or.inl ⟨h0,by simp⟩,Q.refl _⟩
  case round=>
   obtain⟨w1,rfl⟩:∃w1:World,w1=wr:=⟨_,rfl⟩
   obtain⟨t,rfl,hts,hav,hlg,hdec,hq⟩:=hrel;obtain⟨A1,c1,ds,rfl,hc1,rd,wd,hvd⟩:=hav;have HV:=hZ hvd;clear hvd;have hl:=wd.len aI;rw[HV.out]at hl;have HDEC:=hZ hdec;clear hdec;rcases Nat.eq_zero_or_pos gk with hg|hg
   ·have hd0:ds.length≤0:=(by rw[hl,hg,aU];exact Nat.le_refl _);clear hl;go_wp2_with fail
    go_ret
    refine⟨_,rfl,?_,hq⟩;rcases HDEC.out with⟨h,_⟩|⟨_,h⟩
    ·omega
    ·exact h.symm
   ·have hd0:0<ds.length:=by
     have:dg B30 gk≠0:=fun h=>(by have:=bM aI h;omega);omega
    have hmk:=wH ds.length (ds.length:Int) rfl (by rw[aB];omega);have hlm:ds.length≤1099511627776:=(by omega);clear hl;go_wp2_with fail
    clear hmk
    go_loopw [5,6] (fun rv iv w2=>∃(j r:Nat) (out:List Nat),j≤ds.length∧iv=.int .i64 ((j:Int)-1)∧rv=.int .i64 (r:Int)∧r<1000000000∧
     vl B30 (ds.drop j)=vl B30 (out.drop j)*1000000000+r∧out.length=ds.length∧(∀d∈out,d<B30)∧Blk .i64 w2 w1.heap.size 2 out∧Q w1 w2) (fun _ iv _=>(intOf iv+1).toNat)
    case atStart=>exact⟨ds.length,0,List.replicate ds.length 0,by omega,rfl,rfl,by omega,by simp[vl],by simp,fA (by decide),Blk.made _ _ _,(Q.refl _).alloc _⟩
    case round=>
     obtain⟨j,r,out,hj,rfl,rfl,hr,hv,hlo,ho,hb,hq2⟩:=hrel;have HV2:=hZ hv;clear hv;have HLO:=hZ hlo;clear hlo;by_cases hlt:0<j
     ·obtain⟨i,rfl⟩:∃i,j=i+1:=⟨j-1,by omega⟩
      rw[show ((i+1:Nat):Int)-1=(i:Int) from by omega];obtain⟨ad,rfl,hbx,hcx⟩:=(rd.below hq2).at_ (k:=i) (by omega);have bx:ds[i]<1073741824:=wd.1 _ (List.getElem_mem _);have HD:=hZ (dP B30 (show i<ds.length by omega));generalize ds[i]=a at*
      have hcell:=hb.cell (i:=i) (by rw[HLO.out];omega);have hfz:=hb.frozen i;go_wp2_with fail
      refine⟨⟨i,(r*B30+a) % 1000000000,out.set i ((r*B30+a)/1000000000),by omega,rfl,congrArg (Value.int _) (by rw[aS];omega),by omega,?_,by rw[List.length_set,HLO.out],
       eH ho (by rw[aS];omega),hb.put i _ (by rw[aS];omega),hq2.setCell (Nat.le_refl _) _⟩,by simp[intOf]⟩
      rw[HD.out,HV2.out,dP B30 (ds:=out.set i ((r*B30+a)/1000000000)) (j:=i) (by rw[List.length_set,HLO.out];omega),List.getElem_set_self,drop_set (by omega)];refine aBj (V:=1000000000) ?_;rw[Nat.mul_comm B30 r,Nat.mul_comm];omega
     ·obtain rfl:j=0:=(by omega);rw[show ((0:Nat):Int)-1=-1 from by omega];go_wp2_with fail
      refine (pI _ _ (w1.heap.size+1) _ _ _ HLO.out (Nat.le_refl _) (by omega) (hb.rd (Nat.lt_succ_self _))).mono ?_;rintro e w3 ⟨k3,hk3,rfl,hnz3,hv3,rfl⟩;have hfin:=HV2.out;rw[List.drop_zero,List.drop_zero,HV.out]at hfin;have hqv:Nr wr (.slice (some ⟨w1.heap.size,0,none⟩) k3 ds.length) (vl B30 out):=
       Nn.of_blk hb hk3 (by rw[HLO.out]at hk3;exact hk3) hnz3 ho (hv3 _)
      have hk3':k3=dg B30 (vl B30 out):=by
       have h1:=Wf.len (b:=B30) aI (xs:=out.take k3) ⟨aQ ho,hnz3⟩;rw[hv3,List.length_take,Nat.min_eq_left hk3]at h1;exact h1
      generalize vl B30 out=G at*
      have HK:=hZ hk3';have HF:=hZ hfin;clear hk3' hfin hv3 hnz3 hk3 hb;clear hd0;have hqq:=hq.trans hq2;go_wp2_with fail
      rcases Nat.eq_zero_or_pos G with hG|hG
      ·have hk0:k3≤0:=(by rw[HK.out,hG,aU];exact Nat.le_refl _);have hr0:0<r:=(by have:=HF.out;rw[hG]at this;omega);have hrg:gk=r:=(by have:=HF.out;rw[hG]at this;omega);have HRG:=hZ hrg;have HGZ:=hZ hG;clear hrg hG;obtain⟨wo,rfl⟩:∃wo:World,wo=wr:=⟨_,rfl⟩
       go_loopw [5,7,8] (fun rv pv iv w4=>∃(i q:Nat) (p:ByteArray),i≤9∧iv=.int .i64 (i:Int)∧rv=.int .i64 (q:Int)∧pv=.string p∧q=r/10^i∧q<1000000000∧(0<q∧dec r=dec q++p.data.toList∨q=0∧dec r=p.data.toList)∧p.size=i∧Q wo w4) (fun _ _ iv _=>9-(intOf iv).toNat)
       case atStart=>exact⟨0,r,ByteArray.empty,by omega,rfl,rfl,rfl,by simp,hr,Or.inl ⟨hr0,by simp⟩,rfl,Q.refl _⟩
       case round=>
        obtain⟨i,q,p,hi,rfl,rfl,rfl,hq0,hq9,hp,hps,hq4⟩:=hrel;have HQ:=hZ hq0;have HP:=hZ hp;have HPS:=hZ hps;clear hq0 hp hps;have hq00:9≤i→q=0:=by
         intro h;obtain rfl:i=9:=(by omega);rw[HQ.out];exact Nat.div_eq_of_lt hr
        rcases Nat.eq_zero_or_pos q with hqz|hqz
        ·have hps9:p.size≤9:=(by rw[HPS.out];exact hi);have hdr:dec r=p.data.toList:=by
          rcases HP.out with⟨h,_⟩|⟨_,h⟩
          ·omega
          ·exact h
         have hnew:dec N=(p++t).data.toList:=by
          rw[ByteArray.data_append,Array.toList_append,←hdr,←HRG.out];rcases HDEC.out with⟨_,h⟩|⟨h,_⟩
          ·exact h
          ·omega
         have hsz:(p++t).size≤10995116277760:=by
          have h1:=congrArg List.length hnew;rw[jQ,if_neg (by omega)]at h1;have h3:(p++t).data.toList.length=(p++t).size:=(by rw[Array.length_toList];rfl);have h2:dg 10 N≤10*dg B30 N:=by
           refine gK (by decide) ?_;rw[Nat.pow_mul];exact Nat.lt_of_lt_of_le (aY aI N) (Nat.pow_le_pow_left (by decide) _)
          omega
         have hG4:Nr wr (.slice (some ⟨w1.heap.size,0,none⟩) k3 ds.length) 0:=by
          have:=hqv.q hq4
          rwa [HGZ.out]at this
         have HN:=hZ hnew;clear hnew hdr hq00;subst hqz;by_cases h9:i<9;all_goals
          go_wp2_with fail
          go_roundg 0
          case measure=>exact hg
          case rel=>exact⟨p++t,rfl,hsz,hG4,by rw[aU];omega,Or.inr ⟨rfl,HN.out⟩,hqq.trans hq4⟩
        ·have h9:i<9:=by
          rcases Nat.lt_or_ge i 9 with h|h
          ·exact h
          ·have:=hq00 h;omega
         clear hq00;have hcv:=aAc;have hs1:(strOfNums [48+(q:Int) % 10]).size≤1:=Nat.le_of_eq (nN _);have hps9:p.size≤9:=(by rw[HPS.out];exact hi);have hdg:=aHE (q % 10) p (48+(q:Int) % 10) (by omega);have hq2':q/10=r/10^(i+1):=(by rw[HQ.out,Nat.pow_succ,Nat.div_div_eq_div_mul]);have hdr:dec r=dec q++p.data.toList:=by
          rcases HP.out with⟨_,h⟩|⟨h,_⟩
          ·exact h
          ·omega
         have hstep:0<q/10∧dec r=dec (q/10)++(dig (q % 10)::p.data.toList)∨q/10=0∧dec r=dig (q % 10)::p.data.toList:=by
          rcases Nat.lt_or_ge q 10 with h|h
          ·refine Or.inr ⟨by omega,?_⟩;rw[hdr,gL h,Nat.mod_eq_of_lt h];rfl
          ·refine Or.inl ⟨by omega,?_⟩;rw[hdr,rE h,List.append_assoc];rfl
         rw[←hdg]at hstep;have HST:=hZ hstep;have HQ2:=hZ hq2';clear hdg hq2' hstep hdr;go_wp2_with fail
         refine⟨⟨i+1,q/10,strOfNums [48+(q:Int) % 10]++p,by omega,by go_num,congrArg (Value.int _) (by omega),rfl,HQ2.out,by omega,HST.out,?_,hq4.alloc _⟩,by simp[intOf];omega⟩;rw[ByteArray.size_append,nN,HPS.out];omega
      ·have hk0:0<k3:=by
        rw[HK.out];rcases Nat.eq_zero_or_pos (dg B30 G) with h|h
        ·have:=bM aI h;omega
        ·exact h
       obtain⟨wo,rfl⟩:∃wo:World,wo=wr:=⟨_,rfl⟩
       go_loopw [5,7,8] (fun rv pv iv w4=>∃(i q:Nat) (p:ByteArray),i≤9∧iv=.int .i64 (i:Int)∧rv=.int .i64 (q:Int)∧pv=.string p∧q=r/10^i∧q<1000000000∧p.data.toList=pd i r∧p.size=i∧Q wo w4) (fun _ _ iv _=>9-(intOf iv).toNat)
       case atStart=>exact⟨0,r,ByteArray.empty,by omega,rfl,rfl,rfl,by simp,hr,rfl,rfl,Q.refl _⟩
       case round=>
        obtain⟨i,q,p,hi,rfl,rfl,rfl,hq0,hq9,hp,hps,hq4⟩:=hrel;have HQ:=hZ hq0;have HP:=hZ hp;have HPS:=hZ hps;clear hq0 hp hps;by_cases h9:i<9
        ·have hcv:=aAc;have hs1:(strOfNums [48+(q:Int) % 10]).size≤1:=Nat.le_of_eq (nN _);have hps9:p.size≤9:=(by rw[HPS.out];exact hi);have hdg:=aHE (q % 10) p (48+(q:Int) % 10) (by omega);have hq2':q/10=r/10^(i+1):=(by rw[HQ.out,Nat.pow_succ,Nat.div_div_eq_div_mul]);have HDG:=hZ hdg;have HQ2:=hZ hq2';clear hdg hq2';go_wp2_with fail
         refine⟨⟨i+1,q/10,strOfNums [48+(q:Int) % 10]++p,by omega,by go_num,congrArg (Value.int _) (by omega),rfl,HQ2.out,by omega,?_,?_,hq4.alloc _⟩,by simp[intOf];omega⟩
         ·rw[HDG.out,HP.out,pd_succ',HQ.out]
         ·rw[ByteArray.size_append,nN,HPS.out];omega
        ·obtain rfl:i=9:=(by omega);have hps9:p.size≤9:=(by rw[HPS.out];exact Nat.le_refl _);have hnew:dec N=dec G++(p++t).data.toList:=by
          rw[ByteArray.data_append,Array.toList_append,HP.out,←List.append_assoc,←aJG hG 9 r hr,show G*10^9+r=gk from HF.out.symm];rcases HDEC.out with⟨_,h⟩|⟨h,_⟩
          ·exact h
          ·omega
         have hsz:(p++t).size≤10995116277760:=by
          have h1:=congrArg List.length hnew;rw[List.length_append,jQ,if_neg (by omega)]at h1;have h3:(p++t).data.toList.length=(p++t).size:=(by rw[Array.length_toList];rfl);have h2:dg 10 N≤10*dg B30 N:=by
           refine gK (by decide) ?_;rw[Nat.pow_mul];exact Nat.lt_of_lt_of_le (aY aI N) (Nat.pow_le_pow_left (by decide) _)
          omega
         have hGk:G<gk:=(by have:=HF.out;omega);have hlG:dg B30 G+1≤1099511627776:=(by have:=bK aI (Nat.le_of_lt hGk);omega);have HN:=hZ hnew;clear hnew;go_wp2_with fail
         go_roundg G
         case measure=>exact hGk
         case rel=>exact⟨p++t,rfl,hsz,hqv.q hq4,hlG,Or.inl ⟨hG,HN.out⟩,hqq.trans hq4⟩
theorem aLi(s:ByteArray)(w:World)(hd:dE s.data.toList)(hs:s.size+80≤LIM):
  Calls Tryz.prog 90 #[.string s] w (oQ (dv s.data.toList) w):=by
 rw[aB]at hs;obtain⟨L,hL⟩:∃L,L=s.data.toList:=⟨_,rfl⟩
 have hLs:L.length=s.size:=by rw[hL,Array.length_toList];rfl
 rw[←hL]at hd⊢;have HL:=hZ hL;have HLs:=hZ hLs;clear hL hLs;go_enter Tryz.func90,Tryz.ntmps90
 go_wp2_with fail
 go_loopw [0,3] (fun sv ov w1=>∃(t:ByteArray) (k:Nat),sv=.string t∧k≤s.size∧t.data.toList=L.drop k∧t.size=s.size-k∧Nr w1 ov (dv (L.take k))∧Q w w1∧Nw w.heap.size ov) (fun sv _ _=>match sv with| .string t=>t.size|_=>0)
 case atStart=>exact⟨s,0,rfl,by omega,by rw[HL.out];rfl,by omega,Nn.zero _ _,Q.refl _,Nw.nil⟩
 case round=>
  obtain⟨t,k,rfl,hk,ht,hts,hov,hq,hnw⟩:=hrel;have HT:=hZ ht;have HTS:=hZ hts;clear ht hts;have hts2:t.size≤1099511627776:=(by have:=HTS.out;omega);rcases Nat.eq_zero_or_pos t.size with h0|h0
  ·go_wp2_with fail
   go_ret
   have e:k=s.size:=(by have:=HTS.out;omega);rw[List.take_of_length_le (by rw[HLs.out];omega)]at hov;exact⟨_,rfl,hov,hq,hnw⟩
  ·obtain⟨n,hn⟩:∃n,n=min t.size 9:=⟨_,rfl⟩
   have hn1:n≤9:=(by omega);have hn2:n≤t.size:=(by omega);have hn3:0<n:=(by omega);have hcase:t.size<9∧t.size≤n∨9≤t.size∧t.size≤9∧9≤n∨9<t.size∧9≤n:=(by omega);clear hn;have HD:dE (t.data.toList):=(by rw[HT.out];exact hd.drop k);have HTL:t.data.toList.length=t.size:=(by rw[Array.length_toList];rfl);have HTL:=hZ HTL;rcases hcase with⟨h9,h9a⟩|⟨h9,h9b,h9a⟩|⟨h9,h9a⟩
   all_goals
    go_wp2_with fail
    obtain⟨wo,rfl⟩:∃wo:World,wo=wr:=⟨_,rfl⟩
    go_loop [5,6,7] (fun pv fv iv=>∃(i p f:Nat),i≤n∧iv=.int .i64 (i:Int)∧pv=.int .i64 (p:Int)∧fv=.int .i64 (f:Int)∧p=dv (t.data.toList.take i)∧f=10^i∧p<f∧f≤1000000000) (fun _ _ iv=>n-(intOf iv).toNat)
    case atStart=>exact⟨0,0,1,by omega,rfl,rfl,rfl,rfl,rfl,by omega,by omega⟩
    case round=>
     obtain⟨i,p,f,hi,rfl,rfl,rfl,hp,hf,hpf,hf9⟩:=hrel;have HP:=hZ hp;have HF:=hZ hf;clear hp hf;by_cases hlt:i<n
     ·have hit:i<t.size:=(by omega);have hc:=HD (t[i]) (by rw[show t[i]=t.data.toList[i]'(by rw[HTL.out];exact hit) from by simp;rfl];exact List.getElem_mem _);have hei:t.data.toList[i]'(by rw[HTL.out];exact hit)=t[i]:=(by simp;rfl);have hp2:10*p+(t[i].toNat-48)=dv (t.data.toList.take (i+1)):=by
       rw[yP (by rw[HTL.out];exact hit),hei,←HP.out]
      have hf2:10*f=10^(i+1):=(by rw[Nat.pow_succ,←HF.out,Nat.mul_comm]);have hf3:10^(i+1)≤10^9:=Nat.pow_le_pow_right (by decide) (by omega);have hf4:10*f≤1000000000:=(by rw[hf2];exact hf3);have HP2:=hZ hp2;have HF2:=hZ hf2;clear hp2 hf2 hf3 hei;go_wp2_with fail
      exact⟨⟨i+1,10*p+(t[i].toNat-48),10*f,by omega,by go_num,congrArg (Value.int _) (by omega),congrArg (Value.int _) (by omega),HP2.out,HF2.out,by omega,hf4⟩,by simp[intOf];omega⟩
     ·obtain rfl:i=n:=(by omega);have lval:dg B30 (dv (L.take k))+1≤LIM:=by
       have h1:dg B30 (dv (L.take k))≤(L.take k).length:=by
        refine gK aI (Nat.lt_of_lt_of_le (aAt (hd.take k)) (Nat.pow_le_pow_left (by decide) _))
       rw[List.length_take,HLs.out]at h1;rw[aB];omega
      have lf:dg B30 f≤1:=gK aI (by rw[Nat.pow_one,aS];omega);have lp:dg B30 p≤1:=gK aI (by rw[Nat.pow_one,aS];omega);have lmul:=dC aI (dv (L.take k)) f;have lks:dg B30 (dv (L.take k))+10≤LIM:=by
       have h1:dg B30 (dv (L.take k))≤(L.take k).length:=by
        refine gK aI (Nat.lt_of_lt_of_le (aAt (hd.take k)) (Nat.pow_le_pow_left (by decide) _))
       rw[List.length_take,HLs.out]at h1;rw[aB];omega
      have hval:dv (L.take k)*f+p=dv (L.take (k+i)):=by
       rw[List.take_add,aJF,←HT.out,←HP.out,HF.out,List.length_take,HTL.out,Nat.min_eq_left hn2]
      have HV:=hZ hval;clear hval;go_wp2_with fail
      refine (aAX _ f _ rfl (by omega)).mono ?_;rintro e w2 ⟨vf,rfl,hvf,hq2,-⟩;go_wp2_with fail
      refine (aC8 _ _ _ f _ (hov.q hq2) hvf (by omega)).mono ?_;rintro e w3 ⟨vt,rfl,hvt,hq3,-⟩;go_wp2_with fail
      refine (aAX _ p _ rfl (by omega)).mono ?_;rintro e w4 ⟨vp,rfl,hvp,hq4,-⟩;go_wp2_with fail
      refine (aLf _ _ _ p _ (hvt.q hq4) hvp (by omega) (by omega)).mono ?_;rintro e w5 ⟨vs,rfl,hvs,hq5,hnw5⟩;have hqq:=((hq2.trans hq3).trans hq4).trans hq5;have hnw6:Nw w.heap.size vs:=hnw5.more (by have:=hq.size;have:=hq2.size;have:=hq3.size;have:=hq4.size;omega);rw[HV.out]at hvs;clear lmul hvt hvp hvf;have hkk:k+i≤s.size:=(by have:=HTS.out;omega);go_wp2_with fail
      first
      |(refine⟨⟨ByteArray.empty,k+i,rfl,hkk,?_,?_,hvs,hq.trans hqq,hnw6⟩,?_⟩
        ·rw[List.drop_of_length_le (by rw[HLs.out];have:=HTS.out;omega)];rfl
        ·have:=HTS.out;show 0=_;omega
        ·show 0<t.size;omega)
      |(refine⟨⟨t.extract 9 t.size,k+i,rfl,hkk,?_,?_,hvs,hq.trans hqq,hnw6⟩,?_⟩
        ·obtain rfl:i=9:=(by omega);rw[Lib.extract_to_end,HT.out,List.drop_drop]
        ·have:=HTS.out;rw[ByteArray.size_extract];omega
        ·show (t.extract 9 t.size).size<t.size;rw[ByteArray.size_extract];omega)
      |(have hmin:(min (t.size:Int) 9).toNat=i:=by omega
        refine⟨⟨t.extract (min (t.size:Int) 9).toNat t.size,k+i,rfl,hkk,?_,?_,hvs,hq.trans hqq,hnw6⟩,?_⟩
        ·rw[hmin,Lib.extract_to_end,HT.out,List.drop_drop]
        ·have:=HTS.out;rw[hmin,ByteArray.size_extract];omega
        ·show (t.extract (min (t.size:Int) 9).toNat t.size).size<t.size;rw[hmin,ByteArray.size_extract];omega)
theorem aFU{l:List UInt8}{i:Nat}{c b:UInt8}(h:c∉l.take i)(hb:l[i]? =some b)(hn:b≠c):c∉l.take (i+1):=by
 rw[List.take_add_one,hb];simp only[Option.toList_some,List.mem_append,List.mem_singleton,not_or];exact⟨h,fun e=>hn e.symm⟩
end
namespace K
open Go.RowKit
open Ma Me
def qI(l:List UInt8):Bool:=l.all (fun c=>decide (48≤c.toNat∧c.toNat≤57)) && !l.isEmpty
theorem xX{l:List UInt8}:qI l=true↔dE l∧l≠[]:=by
 unfold qI dE;cases l<;>simp
theorem aDS{l:List UInt8}{i:Nat}{c:UInt8}{f:UInt8→Bool}(h:(l.take i).all f=true)(hc:l[i]? =some c)(h1:f c=true):(l.take (i+1)).all f=true:=by
 rw[List.take_add_one,hc];simp only[Option.toList_some,List.all_append,h,List.all_cons,h1,List.all_nil,Bool.and_self]
theorem aHF{l:List UInt8}{i:Nat}{c:UInt8}{f:UInt8→Bool}(hc:l[i]? =some c)(h1:f c=false):l.all f=false:=by
 have hm:=List.mem_of_getElem? hc;cases h:l.all f with
 |false=>rfl
 |true=>rw[List.all_eq_true.1 h c hm]at h1;cases h1
theorem tC(s:ByteArray):s.data.toList.length=s.size:=by rw[Array.length_toList];rfl
theorem aNc(s:ByteArray)(w:World)(hs:s.size≤9223372036854775806):Calls Tryz.prog 89 #[.string s] w fun e w'=>e=.returned (.bool (qI s.data.toList))∧Q w w':=by
 go_enter Tryz.func89,Tryz.ntmps89
 go_wp2_with fail
 go_loopw [3] (fun iv w1=>∃i:Nat,iv=.int .i64 (i:Int)∧i≤s.size∧Hid ((s.data.toList.take i).all (fun c=>decide (48≤c.toNat∧c.toNat≤57))=true)∧w1=w) (fun iv _=>s.size-(intOf iv).toNat)
 case atStart=>exact⟨0,rfl,by omega,hZ (by simp),rfl⟩
 case round=>
  obtain⟨i,rfl,hi,hall,rfl⟩:=hrel;by_cases hp:i<s.size
  ·have h1:(i:Int)<(s.size:Int):=(by omega);have h0:(0:Int)≤(i:Int):=(by omega);have hby:=byte_at hp;have h2:(i:Int).toNat=i:=rfl;generalize hb:s[i]'hp=b at*
   have HBY:=hZ hby;clear hby;by_cases hlo:b.toNat<48
   ·have hl2:(b.toNat:Int)<48:=(by omega);have HY:=hZ (aHF (f:=fun c=>decide (48≤c.toNat∧c.toNat≤57)) HBY.out (decide_eq_false (by omega)));clear hlo;go_wp2_with fail
    go_ret
    exact⟨by unfold qI;rw[HY.out];rfl,Q.refl _⟩
   ·by_cases hhi:57<b.toNat
    ·have hl2:¬(b.toNat:Int)<48:=(by omega);have hl3:(57:Int)<(b.toNat:Int):=(by omega);have HY:=hZ (aHF (f:=fun c=>decide (48≤c.toNat∧c.toNat≤57)) HBY.out (decide_eq_false (by omega)));clear hlo hhi;go_wp2_with fail
     go_ret
     exact⟨by unfold qI;rw[HY.out];rfl,Q.refl _⟩
    ·have hl2:¬(b.toNat:Int)<48:=(by omega);have hl3:¬(57:Int)<(b.toNat:Int):=(by omega);have HN:=hZ (aDS hall.out HBY.out (decide_eq_true (by omega)));clear hlo hhi;go_wp2_with fail
     exact⟨⟨i+1,rfl,by omega,HN,trivial⟩,by simp[intOf];omega⟩
  ·have h1:¬(i:Int)<(s.size:Int):=(by omega);have hno2:qI s.data.toList=decide (0<s.size):=by
    have h:=hall.out;rw[List.take_of_length_le (by rw[tC];omega)]at h;unfold qI;rw[h,Bool.true_and];have:=tC s;cases e:s.data.toList with
    |nil=>rw[e]at this;simp only[List.length_nil]at this;simp[←this]
    |cons a r=>rw[e]at this;simp only[List.length_cons]at this;rw[decide_eq_true (by omega)];rfl
   have HY:=hZ hno2;clear hno2;go_wp2_with fail
   go_ret
   exact⟨by rw[HY.out];simp,Q.refl _⟩
theorem aC4{l:List UInt8}{c:UInt8}{i:Nat}(h:c∉l.take i)(hb:l[i]? =some c):fE c l=l.take i∧aft c l=l.drop (i+1)∧c∈l:=by
 have hlt:i<l.length:=(List.getElem?_eq_some_iff.1 hb).1;have e:l=l.take i++c::l.drop (i+1):=by
  conv=>lhs;rw[←List.take_append_drop i l]
  rw[List.drop_eq_getElem_cons hlt];rw[(List.getElem?_eq_some_iff.1 hb).2]
 obtain⟨h1,h2⟩:=fore_of' (c:=c) (f:=l.take i) (l.drop (i+1)) h;rw[←e]at h1 h2;exact⟨h1,h2,List.mem_of_getElem? hb⟩
theorem aAd{l:List UInt8}{c:UInt8}(h:c∉l):fE c l=l∧aft c l=[]:=by
 rcases wY c l with⟨_,h1,h2⟩|⟨h1,_⟩
 ·exact⟨h1,h2⟩
 ·exact absurd h1 h
theorem aPS(s:ByteArray)(c:UInt8)(bt:Bool)(w:World)(hbt:decide (c∈s.data.toList)=bt)(hs:s.size≤9223372036854775806):Calls Tryz.prog 88 #[.string s,.int .u8 (c.toNat:Int)] w fun e w'=>
  ∃f r:ByteArray,e=.returned (.tuple #[.string f,.string r,.bool bt])∧f.data.toList=fE c s.data.toList∧r.data.toList=aft c s.data.toList∧f.size≤s.size∧r.size≤s.size∧Q w w':=by
 go_enter Tryz.func88,Tryz.ntmps88
 go_wp2_with fail
 go_loopw [7] (fun iv w1=>∃i:Nat,iv=.int .i64 (i:Int)∧i≤s.size∧Hid (c∉s.data.toList.take i)∧w1=w) (fun iv _=>s.size-(intOf iv).toNat)
 case atStart=>exact⟨0,rfl,by omega,hZ (by simp),rfl⟩
 case round=>
  obtain⟨i,rfl,hi,hno,rfl⟩:=hrel;by_cases hp:i<s.size
  ·have h1:(i:Int)<(s.size:Int):=(by omega);have h0:(0:Int)≤(i:Int):=(by omega);have hby:=byte_at hp;have h2:(i:Int).toNat=i:=rfl;generalize hb:s[i]'hp=b at*
   have HBY:=hZ hby;clear hby;by_cases hc:b=c
   ·subst hc;obtain⟨e1,e2,e3⟩:=aC4 hno.out HBY.out;have hbt1:bt=true:=(by rw[←hbt];exact decide_eq_true e3);subst hbt1;clear hbt e3;have E1:=hZ e1;have E2:=hZ e2;clear e1 e2;have h3:(i:Int)≤(s.size:Int):=(by omega);have h4:(0:Int)≤(i:Int)+1:=(by omega);have h5:(i:Int)+1≤(s.size:Int):=(by omega);go_wp2_with fail
    go_region
    go_wp2_with fail
    refine bodyPost_ret (v:=.tuple #[.string (s.extract 0 i),.string (s.extract (i+1) s.size),.bool true]) (by simp[results,Tryz.results88,go_sem]) rfl ?_;exact⟨s.extract 0 i,s.extract (i+1) s.size,rfl,by rw[E1.out];simp,by rw[E2.out,Lib.extract_to_end],by simp;try omega,by simp,(Q.refl _).drew⟩
   ·have hn:¬(b.toNat:Int)=(c.toNat:Int):=fun h=>hc (UInt8.toNat_inj.1 (by omega));have HN:=hZ (aFU hno.out HBY.out hc);clear hc;go_wp2_with fail
    exact⟨⟨i+1,rfl,by omega,HN,trivial⟩,by simp[intOf];omega⟩
  ·have h1:¬(i:Int)<(s.size:Int):=(by omega);have hno2:c∉s.data.toList:=by
    have h:=hno.out
    rwa [List.take_of_length_le (by rw[tC];omega)]at h
   have hbt1:bt=false:=(by rw[←hbt];exact decide_eq_false hno2);subst hbt1;clear hbt;have HY:=hZ hno2;clear hno2;go_wp2_with fail
   refine bodyPost_ret (v:=.tuple #[.string s,.string ⟨#[]⟩,.bool false]) (by simp[results,Tryz.results88,go_sem]) rfl ?_;exact⟨s,⟨#[]⟩,rfl,(aAd HY.out).1.symm,(aAd HY.out).2.symm,Nat.le_refl _,Nat.zero_le _,Q.refl _⟩
theorem aNd(s:ByteArray)(sg:Int)(w:World)(hsg:(if fM s.data.toList then -1 else 1)=sg)(_:s.size≤9223372036854775806):Calls Tryz.prog 87 #[.string s] w fun e w'=>
  ∃f:ByteArray,e=.returned (.tuple #[.string f,.int .i64 sg])∧f.data.toList=unsigned s.data.toList∧f.size≤s.size∧Q w w':=by
 by_cases hp:0<s.size
 ·have h1:(0:Int)<(s.size:Int):=(by omega);have hby:=byte_at hp;generalize hb:s[0]'hp=b at*
  have hh:s.data.toList.head? =some b:=(by rw[←hby,List.head?_eq_getElem?]);by_cases hc:b=45
  ·subst hc;have hn:fM s.data.toList=true:=(by unfold fM;rw[hh];rfl);have h3:(1:Int)≤(s.size:Int):=(by omega);obtain rfl:-1=sg:=(by rw[←hsg,hn];rfl);clear hsg;have HN:=hZ hn;clear hn hby hh;go_enter Tryz.func87,Tryz.ntmps87
   go_wp2_with fail
   refine bodyPost_ret (v:=.tuple #[.string (s.extract 1 s.size),.int .i64 (-1)]) (by simp[results,Tryz.results87,go_sem]) rfl ?_;exact⟨_,rfl,by rw[Lib.extract_to_end];unfold unsigned;rw[if_pos HN.out,List.drop_one],by simp,Q.refl _⟩
  ·have hn:fM s.data.toList=false:=(by unfold fM;rw[hh];simpa using hc);have hn3:¬(b.toNat:Int)=45:=fun h=>hc (UInt8.toNat_inj.1 (by have:(45:UInt8).toNat=45:=rfl;omega));obtain rfl:1=sg:=(by rw[←hsg,hn];rfl);clear hsg;have HN:=hZ hn;clear hn hby hh hc;go_enter Tryz.func87,Tryz.ntmps87
   go_wp2_with fail
   refine bodyPost_ret (v:=.tuple #[.string s,.int .i64 1]) (by simp[results,Tryz.results87,go_sem]) rfl ?_;exact⟨_,rfl,by unfold unsigned;rw[HN.out];rfl,Nat.le_refl _,Q.refl _⟩
 ·have h1:¬(0:Int)<(s.size:Int):=(by omega);have e:s.data.toList=[]:=List.eq_nil_of_length_eq_zero (by rw[tC];omega);have hn:fM s.data.toList=false:=(by rw[e];rfl);obtain rfl:1=sg:=(by rw[←hsg,hn];rfl);clear hsg;have HN:=hZ hn;clear hn e;go_enter Tryz.func87,Tryz.ntmps87
  go_wp2_with fail
  refine bodyPost_ret (v:=.tuple #[.string s,.int .i64 1]) (by simp[results,Tryz.results87,go_sem]) rfl ?_;exact⟨_,rfl,by unfold unsigned;rw[HN.out];rfl,Nat.le_refl _,Q.refl _⟩
end K
namespace E
open Go Go.RowKit
open Ma Me K
noncomputable section
def rn(n:Nat):AV:=sc (.r n)
def ss(l:List UInt8):AV:=sc (.s (un8 l))
open Classical in
def q1(p:Nat→Prop)(f:Nat→AV):PF:=fun l=>match l with| [.c false [.r n]]=>if p n then some (f n) else none|_=>none
open Classical in
def q2(p:Nat→Nat→Prop)(f:Nat→Nat→AV):PF:=fun l=>match l with| [.c false [.r n],.c false [.r m]]=>if p n m then some (f n m) else none|_=>none
open Classical in
def qs(p:List UInt8→Prop)(f:List UInt8→AV):PF:=fun l=>match l with| [.c false [.s l]]=>if p (by8 l)∧okS l=true then some (f (by8 l)) else none|_=>none
def cR(a b:Nat):Prop:=31*(dg B30 a+dg B30 b)+200≤LIM
def spl(c:UInt8)(l:List UInt8):AV:=.t [(false,[.s (un8 (fE c l))]),(false,[.s (un8 (aft c l))]),(false,[.b (decide (c∈l))])]
def aFV:PF:=fun l=>match l with| [.c false [.s l],.c false [.i .u8 (.ofNat c)]]=>cb (okS l && decide (c<256)) (some (spl (UInt8.ofNat c) (by8 l))) none|_=>none
def aR9:PF:=fun l=>match l with| []=>some (rn 1)|_=>none
open Classical in
def aFW:PF:=fun l=>match l with| [.c false [.i .i64 z]]=>if 0≤z∧z≤9223372036854775807 then some (rn z.toNat) else none|_=>none
open Classical in
def aIZ:PF:=fun l=>match l with| [.c false [.r n],.c false [.i .i64 z]]=>if 0≤z∧z≤1000∧dg B30 n≤3000000000 then some (rn (n*2^z.toNat)) else none|_=>none
def rs:List (Nat × PF):=
 [(92,q1 (fun _=>True) fun n=>sc (.b (decide (n=1)))),
  (91,aR9),
  (149,q2 cR fun a b=>sc (.i .i64 (cmp a b))),
  (131,q2 cR fun a b=>rn (a+b)),
  (150,q2 (fun a b=>cR a b∧b≤a) fun a b=>rn (a-b)),
  (76,q2 cR fun a b=>rn (a*b)),
  (129,q2 (fun a b=>cR a b∧0<b) fun a b=>.t [(false,[.r (a/b)]),(false,[.r (a % b)])]),
  (93,q2 (fun a b=>cR a b∧0<b) fun a b=>rn (Nat.gcd a b)),
  (90,qs dE fun l=>rn (dv l)),
  (89,qs (fun _=>True) fun l=>sc (.b (qI l))),
  (87,qs (fun _=>True) fun l=>.t [(false,[.s (un8 (unsigned l))]),(false,[.i .i64 (if fM l then -1 else 1)])]),
  (132,aFW),
  (133,q1 (fun n=>dg B30 n+1≤LIM) fun n=>ss (dec n)),
  (77,aIZ),
  (88,aFV)]
def rsT:T 3 PF:=T.ofL rs
def FR:Cf:=⟨Tryz.prog,fun _=>True,39,fun f=>rsT.get f,aD2,fun _=>none,fun _ _=>none,fun r n=>cb r (some (dg B30 n)) none⟩
def QOk(fn:Nat)(g:PF):Prop:=∀(args:List AV) (v:AV),g args=some v→∀(c:Cx) (vs:List Value),VL c args vs→
 Calls Tryz.prog fn vs.toArray c.w fun e w'=>∃u,e=.returned u∧Me.Q c.w w'∧VR ⟨c.n,c.k,c.r,w',c.z⟩ v u
theorem qk1{fn:Nat}{p:Nat→Prop}{f:Nat→AV}(h:∀x n (c:Cx),Nr c.w x n→p n→Calls Tryz.prog fn #[x] c.w fun e w'=>∃u,e=.returned u∧Me.Q c.w w'∧VR ⟨c.n,c.k,c.r,w',c.z⟩ (f n) u):QOk fn (q1 p f):=by
 intro args v hx c vs hv;unfold q1 at hx;split at hx
 ·split at hx
  ·cases hx
   match vs,hv with
   | [x],hv=>rename_i hp;exact h x _ c (aF.1 hv.1) hp
  ·cases hx
 ·cases hx
theorem qk2{fn:Nat}{p:Nat→Nat→Prop}{f:Nat→Nat→AV}(h:∀x y n m (c:Cx),Nr c.w x n→Nr c.w y m→p n m→Calls Tryz.prog fn #[x,y] c.w fun e w'=>∃u,e=.returned u∧Me.Q c.w w'∧VR ⟨c.n,c.k,c.r,w',c.z⟩ (f n m) u):QOk fn (q2 p f):=by
 intro args v hx c vs hv;unfold q2 at hx;split at hx
 ·split at hx
  ·cases hx
   match vs,hv with
   | [x,y],hv=>rename_i hp;exact h x y _ _ c (aF.1 hv.1) (aF.1 hv.2.1) hp
  ·cases hx
 ·cases hx
theorem qks{fn:Nat}{p:List UInt8→Prop}{f:List UInt8→AV}(h:∀(s:ByteArray) (c:Cx),s.size<1000000→p s.data.toList→Calls Tryz.prog fn #[.string s] c.w fun e w'=>∃u,e=.returned u∧Me.Q c.w w'∧VR ⟨c.n,c.k,c.r,w',c.z⟩ (f s.data.toList) u):QOk fn (qs p f):=by
 intro args v hx c vs hv;unfold qs at hx;split at hx
 ·split at hx
  ·rename_i l hp;cases hx
   match vs,hv with
   | [x],hv=>
     obtain⟨s,rfl,hs⟩:=aF.1 (show VR c (sc (.s l)) x from hv.1);have e:=iH hs;have:=aP.1 hp.2;rw[e.1]at hp⊢;exact h s c (by omega) hp.1
  ·cases hx
 ·cases hx
theorem xY{fn:Nat}{args:Array Value}{c:Cx}{n:Nat}(h:Calls Tryz.prog fn args c.w (oQ n c.w)):Calls Tryz.prog fn args c.w fun e w'=>∃u,e=.returned u∧Me.Q c.w w'∧VR ⟨c.n,c.k,c.r,w',c.z⟩ (rn n) u:=by
 refine h.mono ?_;rintro e w' ⟨r,h1,h2,h3,-⟩;exact⟨r,h1,h3,aF.2 h2⟩
theorem vE{a b:Nat}(h:cR a b):dg B30 a+80≤LIM∧dg B30 b+80≤LIM∧31*dg B30 a+80≤LIM∧31*dg B30 b+80≤LIM∧dg B30 a+dg B30 b+2≤LIM:=by
 unfold cR at h;omega
theorem aTM:∀p∈rs,QOk p.1 p.2:=by
 unfold rs;simp only[List.forall_mem_cons];refine⟨qk1 fun x n c h1 _=>uJ (fun _=>rfl) ((aTL x n c.w h1).mono fun e w' h=>⟨h.1,h.2▸Q.refl _⟩),?_⟩;refine⟨fun args v hx c vs hv=>?_,?_⟩
 ·match args,vs,hx,hv with
  | [],[],hx,_=>
    cases hx;exact xY (pJ c.w)
 refine⟨qk2 fun x y n m c h1 h2 hp=>uJ (fun _=>rfl) (mX x y n m c.w h1 h2 (by have:=vE hp;omega) (by have:=vE hp;omega)),?_⟩;refine⟨qk2 fun x y n m c h1 h2 hp=>xY (aLf x y n m c.w h1 h2 (by have:=vE hp;omega) (by have:=vE hp;omega)),?_⟩;refine⟨qk2 fun x y n m c h1 h2 hp=>xY (aAW x y n m c.w h1 h2 hp.2 (by have:=vE hp.1;omega)),?_⟩;refine⟨qk2 fun x y n m c h1 h2 hp=>xY (aC8 x y n m c.w h1 h2 (vE hp).2.2.2.2),?_⟩;refine⟨qk2 fun x y n m c h1 h2 hp=>(aDD x y n m c.w h1 h2 hp.2 (by have:=vE hp.1;omega) (by have:=vE hp.1;omega)).mono fun e w' h=>?_,?_⟩
 ·obtain⟨u,v,h3,h4,h5,h6⟩:=h;exact⟨_,h3,h6,[u,v],rfl,⟨_,rfl,h4⟩,⟨_,rfl,h5⟩,trivial⟩
 refine⟨qk2 fun x y n m c h1 h2 hp=>(aLg x y n m c.w h1 h2 hp.2 (vE hp.1).2.2.1 (vE hp.1).2.2.2.1).mono fun e w' h=>?_,?_⟩
 ·obtain⟨u,h3,h4,h5⟩:=h;exact⟨_,h3,h5,aF.2 h4⟩
 refine⟨qks fun s c h1 hp=>xY (aLi s c.w hp (by rw[aB];omega)),?_⟩;refine⟨qks fun s c h1 hp=>uJ (fun _=>rfl) (aNc s c.w (by omega)),?_⟩;refine⟨qks fun s c h1 hp=>(aNd s _ c.w rfl (by omega)).mono fun e w' h=>?_,?_⟩
 ·obtain⟨f,h3,h4,h5,h6⟩:=h;exact⟨_,h3,h6,[_,_],rfl,⟨_,rfl,f,rfl,iX h4⟩,⟨_,rfl,rfl⟩,trivial⟩
 refine⟨fun args v hx c vs hv=>?_,?_⟩
 ·unfold aFW at hx;split at hx
  ·rename_i z;split at hx
   ·rename_i hz;cases hx
    match vs,hv with
    | [x],hv=>
      have hu:x=.int .i64 z:=aF.1 hv.1;subst hu;exact xY (aPR z z.toNat c.w (by omega) (by omega))
   ·cases hx
  ·cases hx
 refine⟨qk1 fun x n c h1 hp=>(aLh x n c.w h1 hp).mono fun e w' h=>?_,?_⟩
 ·obtain⟨t,h3,h4,h5⟩:=h;exact⟨_,h3,h5,aF.2 ⟨t,rfl,iX h4⟩⟩
 refine⟨fun args v hx c vs hv=>?_,?_⟩
 ·unfold aIZ at hx;split at hx
  ·rename_i n z;split at hx
   ·rename_i hz;cases hx
    match vs,hv with
    | [x,y],hv=>
      have hu:y=.int .i64 z:=aF.1 hv.2.1;subst hu;exact xY (aAb x n z.toNat z c.w (aF.1 hv.1) (by omega) (by rw[aB];omega))
   ·cases hx
  ·cases hx
 refine⟨fun args v hx c vs hv=>?_,fun x hx=>by cases hx⟩;unfold aFV at hx;split at hx
 ·rename_i l k;obtain⟨h1,h2⟩:=aD.1 hx;obtain⟨h1,h3⟩:=(Bool.and_eq_true _ _).mp h1;injection h2 with h2;subst h2
  match vs,hv with
  | [x,y],hv=>
    obtain⟨s,rfl,hs⟩:=aF.1 (show VR c (sc (.s l)) x from hv.1);have hy:y=.int .u8 (k:Int):=aF.1 hv.2.1;subst hy;have e:=iH hs;have:=aP.1 h1;have hk:(UInt8.ofNat k).toNat=k:=by
     have:=of_decide_eq_true h3;simp;omega
    have key:=aPS s (UInt8.ofNat k) _ c.w rfl (by omega);rw[hk]at key;refine key.mono ?_;rintro e2 w' ⟨f,r,h4,h5,h6,-,-,h7⟩;rw[e.1];exact⟨_,h4,h7,[_,_,_],rfl,⟨_,rfl,f,rfl,iX h5⟩,⟨_,rfl,r,rfl,iX h6⟩,⟨_,rfl,rfl⟩,trivial⟩
 ·cases hx
theorem aSa:FOk FR:=by
 refine⟨fun f G h=>?_,fun _ _ _ h=>h,fun fn g args v hg hx c vs hb hv=>aTM _ (wC (show (T.ofL rs:T 3 _).get fn=some g from hg)) args v hx c vs hv,fun _ _ _ h=>(by cases h),fun n k=>⟨fun h=>(by cases h),fun h w v hv=>?_⟩,fun _ _ _ _ _ h=>(by cases h)⟩
 ·have:=aCT aFj h;unfold ngB at this;simpa using this
 ·injection h with h;obtain⟨A,c,ds,rfl,-,-,h4,h5⟩:=hv;refine⟨A,c,?_⟩;rw[←h,←h5,←h4.len aI]
end
end E
end Go.Proofs.YtohcfjmkfflkpaaGreatDoor
