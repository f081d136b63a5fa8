import Derived.Test.YtciihepbeacppaaGreatM09
set_option maxRecDepth 100000
set_option maxHeartbeats 0
namespace Go.Proofs.YtciihepbeacppaaGreat
open Tryz Go.RowKit List World Below
set_option linter.unusedVariables false
def Cj(kept gone:Nat)(c:List Nat)(k:Nat):List Nat:=(c.take k).map (ek kept gone)++c.drop k
theorem Nc{kept gone:Nat}{c:List Nat}{k:Nat}(hk:k<c.length):Cj kept gone c (k+1)=(Cj kept gone c k).set k (ek kept gone (c.getD k 0))/\(Cj kept gone c k).getD k 0=c.getD k 0:=by
 unfold Cj;have e:c.drop k=c[k]::c.drop (k+1):=drop_eq_getElem_cons hk;have e0:c.getD k 0=c[k]:=by simp[hk]
 have e2:(c.take (k+1)).map (ek kept gone)=(c.take k).map (ek kept gone)++[ek kept gone c[k]]:=by
  rw[take_add_one,getElem?_eq_getElem hk,map_append];rfl
 have e3:((c.take k).map (ek kept gone)).length=k:=by simp;omega
 refine⟨?_,?_⟩
 .rw[e2,e,set_append_right _ _ (by omega),e3,Nat.sub_self,set_cons_zero,append_assoc,e0];rfl
 .rw[getD_eq_getElem?_getD,getElem?_append_right (by omega),e3,Nat.sub_self,e,e0];rfl
theorem SX(kept gone:Nat)(c:List Nat)(k:Nat):(Cj kept gone c k).length=c.length:=by simp[Cj];omega
theorem QS{l:List Nat}{k c:Nat}(hk:k<l.length)(h:l.getD k 0=c):l.set k c=l:=by
 have:c=l[k]:=by rw[<-h];simp[hk]
 rw[this,set_getElem_self]
section
variable {w w':World} {A:Nat} {f:CF} {av ov:Value}
theorem Fm.newRow(h:Fm w A f av ov){ow':List Pr}(hl:ow'.length=f.ow.length)(hr:w'.ownsRow 0 182 3 ov f.ow.length (af ow'))(hs:au ov.ownBlock.toList w ov.ownBlock.toList w'):Fm w' A { f with ow:=ow' } av ov/\au (aH A av ov) w (aH A av ov) w':=by
 obtain⟨n1,n2,n3⟩:=h.nds;refine⟨⟨⟨h.is.ob.of_eq (hs.block A (h.lt A (by simp[aH])) (by simpa using n2)),ae h.is.ap (λk hk=>hs.block k (h.lt k (by simp[aH,hk])) (by simpa using n3 k hk)),?_⟩,h.nd,h.c5⟩,hs.wide (λk hk=>by simp only[aH,mem_cons,mem_append];exact zq1 (zq1 hk))⟩;show w'.ownsRow 0 _ 3 ov ow'.length (af ow');rw[hl];exact hr
theorem Fm.newRowA(h:Fm w A f av ov){ap':List Pr}(hl:ap'.length=f.ap.length)(hr:w'.ownsRow 0 182 3 av f.ap.length (af ap'))(hs:au av.ownBlock.toList w av.ownBlock.toList w'):Fm w' A { f with ap:=ap' } av ov/\au (aH A av ov) w (aH A av ov) w':=by
 obtain⟨n1,n2,n3⟩:=h.nds;refine⟨⟨⟨h.is.ob.of_eq (hs.block A (h.lt A (by simp[aH])) (by simpa using n1)),?_,ae h.is.ow (λk hk=>hs.block k (h.lt k (by simp[aH,hk])) (by simpa using λe=>n3 k e hk))⟩,h.nd,h.c5⟩,hs.wide (λk hk=>by simp only[aH,mem_cons,mem_append];exact zq1 (zq0 hk))⟩;show w'.ownsRow 0 _ 3 av ap'.length (af ap');rw[hl];exact hr
theorem yE(h:Fm w A f av ov)(ha:f.ap.length<=100000)(ho:f.ow.length<=100000)(kept gone:Nat):Calls prog 260 #[.pointer (some ⟨A,0,none⟩),.int .i64 kept,.int .i64 gone] w λe w'=>e=.returned (.tuple #[])/\Fm w' A (qe f kept gone) av ov/\au (aH A av ov) w (aH A av ov) w':=by
 have H5:=ab h.c5;have cG:Hid (Fm w A { f with cl:=Cj kept gone f.cl 0 } av ov/\au (aH A av ov) w (aH A av ov) w):=ab ⟨by simpa[Cj] using h,au.refl _ _⟩;clear h;go_enter func260,ntmps260;go_wp2_with fail
 go_loopw [6] (λi wx=>∃(k:Nat),k<=5/\i=.int .i64 k/\Hid (Fm wx A { f with cl:=Cj kept gone f.cl k } av ov/\au (aH A av ov) w (aH A av ov) wx)) (λi _=>5-(intOf i).toNat)
 case atStart=>exact⟨0,zq5 _,rfl,cG⟩
 case round =>
  clear cG;obtain⟨k,hk,rfl,hI⟩:=hrel;by_cases ar:k<5
  .have hd:decide ((k:Int)<(5:Int))=true:=(by simp;omega);have aV:=Nc (kept:=kept) (gone:=gone) (c:=f.cl) (k:=k) (by have:=uh H5;omega);obtain⟨c,hc⟩:∃c,c=f.cl.getD k 0:=⟨_,rfl⟩;have x:wr.cell? ⟨A,k,none⟩=some (.int .i64 (c:Int)):=by
    have:=(uh hI).1.is.cls ar;unfold gZ at this;rw[this];show some (Value.int .i64 (((Cj kept gone f.cl k).getD k 0:Nat):Int))=_;rw[aV.2,<-hc]
   have fz:wr.frozen? ⟨A,k,none⟩=false:=ownsRow.frozenAt (uh hI).1.is.ob k;have db:Hid (Cj kept gone f.cl (k+1)=(Cj kept gone f.cl k).set k (ek kept gone c)):=ab (by rw[aV.1,<-hc]);have i1:(0:Int)<=(k:Int):=(by omega);have i2:(k:Int)<(5:Int):=(by omega);have HG:Hid ((Cj kept gone f.cl k).getD k 0=c):=ab (by rw[aV.2,<-hc]);clear aV hc;by_cases e1:c=gone
   .have b1:((c:Int)==(gone:Int))=true:=(by simp[e1]);have HE:Hid (ek kept gone c=kept):=ab (if_pos e1);clear e1;go_wp2_with fail
    go_roundw
    case rel=>exact⟨k+1,by omega,by go_num,ab ⟨by rw[uh db,uh HE];exact(uh hI).1.setCl k kept ar,(uh hI).2.setCell (p:=⟨A,k,none⟩) (zq0 (by simp[aH])) _⟩⟩
    case measure=>simp[intOf];omega
   .have b1:((c:Int)==(gone:Int))=false:=(by simp;omega);have HE:Hid (Cj kept gone f.cl (k+1)=Cj kept gone f.cl k):=ab (by
     rw[uh db,show ek kept gone c=c from if_neg e1];exact QS (by rw[SX];have:=uh H5;omega) (uh HG))
    clear e1;go_wp2_with fail
    go_roundw
    case rel=>exact⟨k+1,by omega,by go_num,ab ⟨by rw[uh HE];exact(uh hI).1,(uh hI).2⟩⟩
    case measure=>simp[intOf];omega
  .have hd:decide ((k:Int)<(5:Int))=false:=(by simp;omega);have dp:Cj kept gone f.cl k=f.cl.map (ek kept gone):=by
    have:=uh H5;unfold Cj;rw[take_of_length_le (by omega),drop_eq_nil_of_le (by omega),append_nil]
   have hF:=(uh hI).1;rw[dp]at hF;have db:=ab (uh hI).2;have c5:=hF.is.c5;have HRA:=ab (wn hF.is.ap ha kept gone);have HF:=ab hF;clear hF dp hI;obtain⟨aa,ac,l5,-,-⟩:=aj (uh HF).is.ap;obtain⟨oa,oc,gj,-,-⟩:=aj (uh HF).is.ow;subst l5;subst gj;go_wp2_with fail
   refine(uh HRA).mono ?_;rintro e w1 ⟨rfl,xZ,dy⟩;have kE:=(uh HF).newRowA (ap':=f.ap.map (qh kept gone)) (by simp) xZ dy;have c6:=kE.1.is.c6;have HRO:=ab (wn kE.1.is.ow ho kept gone);have Rw:=ab kE;clear xZ dy kE HRA c5;go_wp2_with fail
   refine(uh HRO).mono ?_;rintro e w2 ⟨rfl,mr,gQ⟩;have qb:=(uh Rw).1.newRow (ow':=f.ow.map (qh kept gone)) (by simp) mr gQ;have xI:=ab qb;clear mr gQ qb HRO c6;go_wp2_with fail
   go_end0
   exact⟨rfl,(uh xI).1,((uh db).trans (uh Rw).2).trans (uh xI).2⟩
end
def rh(l:List Pr)(i k:Nat):List Pr:=((range k).filter (λj=>j != i)).map (λj=>l.getD j ax)
def jr(l:List Pr)(i:Nat):List Pr:=rh l i l.length
theorem wQ(l:List Pr)(i k:Nat):rh l i (k+1)=rh l i k++(if k=i then [] else [l.getD k ax]):=by
 unfold rh;rw[range_succ,filter_append,map_append];congr 1;by_cases h:k=i <;> simp[h]
theorem VP(l:List Pr)(i k:Nat):(rh l i k).length<=k:=by
 unfold rh;rw[length_map];exact zq3 (length_filter_le _ _) (by simp)
section
variable {w:World} {A:Nat} {f:CF} {av ov:Value}
theorem yH(h:Fm w A f av ov)(ho:f.ow.length<=100000)(i:Nat):Calls prog 251 #[.pointer (some ⟨A,0,none⟩),.int .i64 i] w λe w'=>e=.returned (.tuple #[])/\∃ov',Fm w' A { f with ow:=jr f.ow i } av ov'/\au (aH A av ov) w (aH A av ov') w':=by
 obtain⟨i0,k9,gX,fK,f9⟩:=info_parts infoPair;obtain⟨oa,oc,gj,-,-⟩:=aj h.is.ow;subst gj;have H:=ab h;have uC:Hid ((w.alloc (.cells #[] 182)).ownsRow w.heap.size 182 3 (.slice (some ⟨w.heap.size,0,none⟩) 0 0) 0 []/\Below w.heap.size w (w.alloc (.cells #[] 182))):=ab ⟨ownsRow_lit (base:=w.heap.size) (e:=182) (size:=3) w #[] 0 (zq4 _) (by simp[maxLen]) rfl,ah w _⟩;clear h;go_enter func251,ntmps251;go_wp2_with fail
 go_loopw [4,5] (λrv j wx=>∃(k:Nat),k<=f.ow.length/\j=.int .i64 k/\Hid (wx.ownsRow w.heap.size 182 3 rv (rh f.ow i k).length (af (rh f.ow i k))/\Below w.heap.size w wx)) (λ_ j _=>f.ow.length-(intOf j).toNat)
 case atStart=>exact⟨0,zq5 _,rfl,uC⟩
 case round =>
  clear uC;obtain⟨k,hk,rfl,hI⟩:=hrel;have hF:=(uh H).below (uh hI).2;have c6:=hF.is.c6;obtain⟨ra,rc,Mf,-,-⟩:=aj (uh hI).1;subst Mf;by_cases ar:k<f.ow.length
  .have hd:decide ((k:Int)<(f.ow.length:Int))=true:=(by simp;omega);by_cases hki:k=i
   .have b1:((k:Int) != (i:Int))=false:=(by simp[hki]);have HE:Hid (rh f.ow i (k+1)=rh f.ow i k):=ab (by rw[wQ,if_pos hki,append_nil]);clear hki hF;go_wp2_with fail
    go_roundw
    case rel=>exact⟨k+1,by omega,by go_num,ab (by rw[uh HE];exact uh hI)⟩
    case measure=>simp[intOf];omega
   .have b1:((k:Int) != (i:Int))=true:=(by rw[bne_iff_ne];omega);obtain⟨p,hp⟩:∃p,p=f.ow.getD k ax:=⟨_,rfl⟩;have HE:Hid (rh f.ow i (k+1)=rh f.ow i k++[p]):=ab (by rw[wQ,if_neg hki,<-hp]);obtain⟨g,cap,dQ,-,-⟩:=aE hF.is.ow ar;simp only[Value.slice.injEq,true_and]at dQ;obtain⟨rfl,rfl⟩:=dQ;obtain⟨x0,x1,x2⟩:=aD hF.is.ow ar;rw[<-hp]at x0 x1 x2;have kY:=ab (uh hI).1;have dL:=VP f.ow i k;have OH:=(uh hI).2.size;have i1:(0:Int)<=(k:Int):=(by omega);have i2:(k:Int)<(f.ow.length:Int):=(by omega);obtain⟨L,hL⟩:∃L,L=rh f.ow i k:=⟨_,rfl⟩;rw[<-hL]at HE kY dL hI ⊢;clear hki hF hp hL;go_wp2_with (at_builtin;refine aS _ rfl (.tmp 19) (.tmp 27) 177 rfl w.heap.size 182 i0 _ 3 24 underlying177 k9 gX fK f9 rfl (by decide) _ L.length (af L) rfl ((uh kY).alloc _) ⟨_,0,none⟩ 1 [.int .i64 (p.k:Int),.int .i64 (p.l:Int),.int .i64 (p.r:Int)] rfl rfl (aN _ _ (by simp) [.int .i64 (p.k:Int),.int .i64 (p.l:Int),.int .i64 (p.r:Int)] _) (qY p) (by omega) (by omega) (by simp;omega) ?_)
    intro g4 cap4 w4 iG eg jG;have HN:Hid (w4.ownsRow w.heap.size 182 3 (.slice (some ⟨g4,0,none⟩) (L.length+1) cap4) (rh f.ow i (k+1)).length (af (rh f.ow i (k+1)))/\Below w.heap.size w w4):=ab (by
     rw[uh HE,length_append,length_singleton,eK];refine⟨iG,?_⟩;have hb:=(uh hI).2.alloc OH (.cells #[.int .i64 (p.k:Int),.int .i64 (p.l:Int),.int .i64 (p.r:Int)] 182);exact hb.grown eg hb.size (λk hk=>((uh kY).lt k hk).1))
    clear iG eg jG;go_wp2_with fail
    go_roundw
    case rel=>exact⟨k+1,by omega,by go_num,HN⟩
    case measure=>simp[intOf];omega
  .have hd:decide ((k:Int)<(f.ow.length:Int))=false:=(by simp;omega);have kk:k=f.ow.length:=(by omega);have hs:au (Value.slice oa f.ow.length oc).ownBlock.toList w (Value.slice ra (rh f.ow i k).length rc).ownBlock.toList wr:=(au.ofBw (F:=(Value.slice oa f.ow.length oc).ownBlock.toList) (uh hI).2).foots (λj hj=>zq1 ((uh hI).1.lt j (by simpa using hj)).1);have hN:=(uh H).newOv (ow':=rh f.ow i k) hs (v':=.slice ra (rh f.ow i k).length rc) (λj hj=>by simpa using hj) (ej (uh hI).1 (zq5 _));have HN:Hid (Fm (wr.setCell ⟨A,6,none⟩ (.slice ra (rh f.ow i k).length rc)) A { f with ow:=jr f.ow i } av (.slice ra (rh f.ow i k).length rc)/\au (aH A av (.slice oa f.ow.length oc)) w (aH A av (.slice ra (rh f.ow i k).length rc)) (wr.setCell ⟨A,6,none⟩ (.slice ra (rh f.ow i k).length rc))):=ab (by
    have e:jr f.ow i=rh f.ow i k:=(by unfold jr;rw[kk]);rw[e];exact hN)
   have f6:=ownsRow.frozenAt hF.is.ob 6;clear hs hN kk hF;go_wp2_with fail
   go_end0
   exact⟨rfl,_,(uh HN).1,(uh HN).2⟩
end
def zO(l:List Pr)(c:Nat):Nat:=l.countP (λp=>decide (p.r=c))
theorem NK{l:List Pr}{k:Nat}(hk:k<l.length)(c:Nat):zO (l.take (k+1)) c=zO (l.take k) c+(if (l.getD k ax).r=c then 1 else 0):=by
 have e:l.getD k ax=l[k]:=jQ hk;unfold zO;rw[take_add_one,getElem?_eq_getElem hk,countP_append,e];by_cases h:l[k].r=c <;> simp[h]
theorem NJ(l:List Pr)(c:Nat):zO l c<=l.length:=countP_le_length
section
variable {w:World} {A:Nat} {f:CF} {av ov:Value}
theorem NL(h:ew w A f av ov)(_ho:f.ow.length<=100000)(c:Nat):Calls prog 262 #[.pointer (some ⟨A,0,none⟩),.int .i64 c] w λe w'=>e=.returned (.int .i64 (zO f.ow c:Nat))/\Below w.heap.size w w':=by
 obtain⟨oa,oc,gj,hoc,hom⟩:=aj h.ow;subst gj;have c6:=h.c6;have H:=ab h;have JG:=ab (Below.refl w.heap.size w);clear h;go_enter func262,ntmps262;go_wp2_with fail
 go_loopw [5,13] (λn i wx=>∃(k:Nat),k<=f.ow.length/\n=.int .i64 (zO (f.ow.take k) c:Nat)/\i=.int .i64 k/\Hid (Below w.heap.size w wx)) (λ_ i _=>f.ow.length-(intOf i).toNat)
 case atStart=>exact⟨0,zq5 _,rfl,rfl,JG⟩
 case round =>
  clear JG;obtain⟨k,hk,rfl,rfl,hb⟩:=hrel;have l6:=NJ (f.ow.take k) c;have hlk:(f.ow.take k).length<=k:=by simp;omega
  by_cases ar:k<f.ow.length
  .have hd:decide ((k:Int)<(f.ow.length:Int))=true:=(by simp;omega);have hF:=(uh H).below (uh hb);obtain⟨g,cap,dQ,-,-⟩:=aE hF.ow ar;simp only[Value.slice.injEq,true_and]at dQ;obtain⟨rfl,rfl⟩:=dQ;obtain⟨x0,x1,x2⟩:=aD hF.ow ar;have aV:=NK ar c;obtain⟨p,hp⟩:∃p,p=f.ow.getD k ax:=⟨_,rfl⟩;rw[<-hp]at x0 x1 x2 aV;obtain⟨n,hn⟩:∃n,n=zO (f.ow.take k) c:=⟨_,rfl⟩;rw[<-hn]at aV l6 ⊢;have fU:Hid (Below w.heap.size w (wr.alloc (.cells #[.int .i64 (p.k:Int),.int .i64 (p.l:Int),.int .i64 (p.r:Int)] 182))):=ab ((uh hb).alloc (uh hb).size _);have i1:(0:Int)<=(k:Int):=(by omega);have i2:(k:Int)<(f.ow.length:Int):=(by omega);clear hF hp hn;by_cases e1:p.r=c
   .have b1:((p.r:Int)==(c:Int))=true:=(by simp[e1]);rw[if_pos e1]at aV;have db:=ab aV;clear e1 aV;go_wp2_with fail
    go_roundw
    case rel=>exact⟨k+1,by omega,by rw[uh db];go_num,by go_num,fU⟩
    case measure=>simp[intOf];omega
   .have b1:((p.r:Int)==(c:Int))=false:=(by simp;omega);rw[if_neg e1]at aV;have db:=ab aV;clear e1 aV;go_wp2_with fail
    go_roundw
    case rel=>exact⟨k+1,by omega,by rw[uh db];rfl,by go_num,fU⟩
    case measure=>simp[intOf];omega
  .have hd:decide ((k:Int)<(f.ow.length:Int))=false:=(by simp;omega);have HE:Hid (zO (f.ow.take k) c=zO f.ow c):=ab (by rw[take_of_length_le (by omega)]);go_wp2_with fail
   go_ret;exact⟨br (by rw[uh HE]),uh hb⟩
theorem Al(a b c d e:Value)(w:World):(Instr.index 176 (.agg #[a,b,c,d,e]) (.int .i64 0)).run prog w=.ok a w:=by kernel_rfl
theorem Am(a b c d e:Value)(w:World):(Instr.index 176 (.agg #[a,b,c,d,e]) (.int .i64 1)).run prog w=.ok b w:=by kernel_rfl
theorem Ao(a b c d e:Value)(w:World):(Instr.index 176 (.agg #[a,b,c,d,e]) (.int .i64 2)).run prog w=.ok c w:=by kernel_rfl
theorem Ap(a b c d e:Value)(w:World):(Instr.index 176 (.agg #[a,b,c,d,e]) (.int .i64 3)).run prog w=.ok d w:=by kernel_rfl
theorem Aq(a b c d e:Value)(w:World):(Instr.index 176 (.agg #[a,b,c,d,e]) (.int .i64 4)).run prog w=.ok e w:=by kernel_rfl
def RY(f:CF)(c:Nat):Bool:=decide (f.cl.getD 0 0=c)||decide (f.cl.getD 1 0=c)||decide (f.cl.getD 2 0=c)||decide (f.cl.getD 3 0=c)||decide (f.cl.getD 4 0=c)
theorem K9(h:ew w A f av ov)(c:Nat):Calls prog 261 #[.pointer (some ⟨A,0,none⟩),.int .i64 c] w λe w'=>e=.returned (.bool (RY f c))/\w'=w:=by
 have x0:=h.cls (i:=0) (by omega);have x1:=h.cls (i:=1) (by omega);have x2:=h.cls (i:=2) (by omega);have x3:=h.cls (i:=3) (by omega);have x4:=h.cls (i:=4) (by omega);unfold gZ at x0 x1 x2 x3 x4;unfold RY;generalize f.cl.getD 0 0=y0 at *;generalize f.cl.getD 1 0=y1 at *;generalize f.cl.getD 2 0=y2 at *;generalize f.cl.getD 3 0=y3 at *;generalize f.cl.getD 4 0=y4 at *;clear h;have j0:=Al (.int .i64 (y0:Int)) (.int .i64 (y1:Int)) (.int .i64 (y2:Int)) (.int .i64 (y3:Int)) (.int .i64 (y4:Int));have j1:=Am (.int .i64 (y0:Int)) (.int .i64 (y1:Int)) (.int .i64 (y2:Int)) (.int .i64 (y3:Int)) (.int .i64 (y4:Int));have j2:=Ao (.int .i64 (y0:Int)) (.int .i64 (y1:Int)) (.int .i64 (y2:Int)) (.int .i64 (y3:Int)) (.int .i64 (y4:Int));have j3:=Ap (.int .i64 (y0:Int)) (.int .i64 (y1:Int)) (.int .i64 (y2:Int)) (.int .i64 (y3:Int)) (.int .i64 (y4:Int));have j4:=Aq (.int .i64 (y0:Int)) (.int .i64 (y1:Int)) (.int .i64 (y2:Int)) (.int .i64 (y3:Int)) (.int .i64 (y4:Int));obtain⟨b,hb⟩:∃b,b=(decide (y0=c)||decide (y1=c)||decide (y2=c)||decide (y3=c)||decide (y4=c)):=⟨_,rfl⟩;rw[<-hb];have HB:=ab hb;clear hb;go_enter func261,ntmps261;go_wp2_with fail
 go_loop [11] (λi=>∃(k:Nat),k<=5/\i=.int .i64 k/\Hid ((0<k->y0≠c)/\(1<k->y1≠c)/\(2<k->y2≠c)/\(3<k->y3≠c)/\(4<k->y4≠c))) (λi=>5-(intOf i).toNat)
 case atStart=>exact⟨0,zq5 _,rfl,ab ⟨by omega,by omega,by omega,by omega,by omega⟩⟩
 case round =>
  obtain⟨k,hk,rfl,hn⟩:=hrel;have vp:k=0\/k=1\/k=2\/k=3\/k=4\/k=5:=by omega
  rcases vp with rfl|rfl|rfl|rfl|rfl|rfl
  .by_cases e1:y0=c
   .have b1:((y0:Int)==(c:Int))=true:=(by simp[e1]);have HE:Hid (b=true):=ab (by rw[uh HB];simp[e1]);clear e1;go_wp2_with fail
    go_ret;exact⟨aB (uh HE).symm,rfl⟩
   .have b1:((y0:Int)==(c:Int))=false:=(by simp;omega);have HN:Hid ((0<1->y0≠c)/\(1<1->y1≠c)/\(2<1->y2≠c)/\(3<1->y3≠c)/\(4<1->y4≠c)):=ab (by
     obtain⟨h0,h1,h2,h3,h4⟩:=uh hn;refine⟨?_,?_,?_,?_,?_⟩ <;> intro hh <;> first|exact e1|omega|(apply h0;omega)|(apply h1;omega)|(apply h2;omega)|(apply h3;omega)|(apply h4;omega))
    clear e1;go_wp2_with fail
    go_round
    case rel=>exact⟨1,by omega,by go_num,HN⟩
    case measure=>simp[intOf]
  .by_cases e1:y1=c
   .have b1:((y1:Int)==(c:Int))=true:=(by simp[e1]);have HE:Hid (b=true):=ab (by rw[uh HB];simp[e1]);clear e1;go_wp2_with fail
    go_ret;exact⟨aB (uh HE).symm,rfl⟩
   .have b1:((y1:Int)==(c:Int))=false:=(by simp;omega);have HN:Hid ((0<2->y0≠c)/\(1<2->y1≠c)/\(2<2->y2≠c)/\(3<2->y3≠c)/\(4<2->y4≠c)):=ab (by
     obtain⟨h0,h1,h2,h3,h4⟩:=uh hn;refine⟨?_,?_,?_,?_,?_⟩ <;> intro hh <;> first|exact e1|omega|(apply h0;omega)|(apply h1;omega)|(apply h2;omega)|(apply h3;omega)|(apply h4;omega))
    clear e1;go_wp2_with fail
    go_round
    case rel=>exact⟨2,by omega,by go_num,HN⟩
    case measure=>simp[intOf]
  .by_cases e1:y2=c
   .have b1:((y2:Int)==(c:Int))=true:=(by simp[e1]);have HE:Hid (b=true):=ab (by rw[uh HB];simp[e1]);clear e1;go_wp2_with fail
    go_ret;exact⟨aB (uh HE).symm,rfl⟩
   .have b1:((y2:Int)==(c:Int))=false:=(by simp;omega);have HN:Hid ((0<3->y0≠c)/\(1<3->y1≠c)/\(2<3->y2≠c)/\(3<3->y3≠c)/\(4<3->y4≠c)):=ab (by
     obtain⟨h0,h1,h2,h3,h4⟩:=uh hn;refine⟨?_,?_,?_,?_,?_⟩ <;> intro hh <;> first|exact e1|omega|(apply h0;omega)|(apply h1;omega)|(apply h2;omega)|(apply h3;omega)|(apply h4;omega))
    clear e1;go_wp2_with fail
    go_round
    case rel=>exact⟨3,by omega,by go_num,HN⟩
    case measure=>simp[intOf]
  .by_cases e1:y3=c
   .have b1:((y3:Int)==(c:Int))=true:=(by simp[e1]);have HE:Hid (b=true):=ab (by rw[uh HB];simp[e1]);clear e1;go_wp2_with fail
    go_ret;exact⟨aB (uh HE).symm,rfl⟩
   .have b1:((y3:Int)==(c:Int))=false:=(by simp;omega);have HN:Hid ((0<4->y0≠c)/\(1<4->y1≠c)/\(2<4->y2≠c)/\(3<4->y3≠c)/\(4<4->y4≠c)):=ab (by
     obtain⟨h0,h1,h2,h3,h4⟩:=uh hn;refine⟨?_,?_,?_,?_,?_⟩ <;> intro hh <;> first|exact e1|omega|(apply h0;omega)|(apply h1;omega)|(apply h2;omega)|(apply h3;omega)|(apply h4;omega))
    clear e1;go_wp2_with fail
    go_round
    case rel=>exact⟨4,by omega,by go_num,HN⟩
    case measure=>simp[intOf]
  .by_cases e1:y4=c
   .have b1:((y4:Int)==(c:Int))=true:=(by simp[e1]);have HE:Hid (b=true):=ab (by rw[uh HB];simp[e1]);clear e1;go_wp2_with fail
    go_ret;exact⟨aB (uh HE).symm,rfl⟩
   .have b1:((y4:Int)==(c:Int))=false:=(by simp;omega);have HN:Hid ((0<5->y0≠c)/\(1<5->y1≠c)/\(2<5->y2≠c)/\(3<5->y3≠c)/\(4<5->y4≠c)):=ab (by
     obtain⟨h0,h1,h2,h3,h4⟩:=uh hn;refine⟨?_,?_,?_,?_,?_⟩ <;> intro hh <;> first|exact e1|omega|(apply h0;omega)|(apply h1;omega)|(apply h2;omega)|(apply h3;omega)|(apply h4;omega))
    clear e1;go_wp2_with fail
    go_round
    case rel=>exact⟨5,by omega,by go_num,HN⟩
    case measure=>simp[intOf]
  .have HE:Hid (b=false):=ab (by
    obtain⟨h0,h1,h2,h3,h4⟩:=uh hn;rw[uh HB];simp[h0,h1,h2,h3,h4])
   go_wp2_with fail
   go_ret;exact⟨aB (uh HE).symm,rfl⟩
end
def DO(f:CF)(p:Pr):Bool:=!(RY f p.l||decide (p.r=p.l))&&decide (zO f.ow p.l=1)
def tH(f:CF):Option Nat:=f.ow.findIdx? (DO f)
theorem Zb{l:List Pr}{P:Pr->Bool}{k:Nat}(hk:k<l.length)(hn:∀j,j<k->P (l.getD j ax)=false)(h:P (l.getD k ax)=true):l.findIdx? P=some k:=by
 rw[findIdx?_eq_some_iff_getElem];refine⟨hk,by rw[<-jQ hk];exact h,λj hj=>?_⟩;have:=hn j hj;rw[jQ (by omega)]at this;simpa using this
theorem Tq{l:List Pr}{P:Pr->Bool}(hn:∀j,j<l.length->P (l.getD j ax)=false):l.findIdx? P=none:=by
 rw[findIdx?_eq_none_iff];intro x hx;obtain⟨k,hk,rfl⟩:=mem_iff_getElem.1 hx;have:=hn k hk;rwa [jQ hk]at this
section
variable {w:World} {A:Nat} {f:CF} {av ov:Value}
theorem DJ(h:ew w A f av ov)(ho:f.ow.length<=100000):Calls prog 250 #[.pointer (some ⟨A,0,none⟩)] w λe w'=>e=.returned (.int .i64 (fL (tH f)))/\Below w.heap.size w w':=by
 obtain⟨oa,oc,gj,hoc,hom⟩:=aj h.ow;subst gj;have H:=ab h;have JG:=ab (Below.refl w.heap.size w);clear h;go_enter func250,ntmps250;go_wp2_with fail
 go_loopw [3] (λi wx=>∃(k:Nat),k<=f.ow.length/\i=.int .i64 k/\Hid (Below w.heap.size w wx)/\Hid (∀j,j<k->DO f (f.ow.getD j ax)=false)) (λi _=>f.ow.length-(intOf i).toNat)
 case atStart=>exact⟨0,zq5 _,rfl,JG,ab (λ_ h=>absurd h (by omega))⟩
 case round =>
  clear JG;obtain⟨k,hk,rfl,hb,hn⟩:=hrel;have hF:=(uh H).below (uh hb);have c6:=hF.c6;by_cases ar:k<f.ow.length
  .have hd:decide ((k:Int)<(f.ow.length:Int))=true:=(by simp;omega);obtain⟨g,cap,dQ,-,-⟩:=aE hF.ow ar;simp only[Value.slice.injEq,true_and]at dQ;obtain⟨rfl,rfl⟩:=dQ;obtain⟨x0,x1,x2⟩:=aD hF.ow ar;obtain⟨p,hp⟩:∃p,p=f.ow.getD k ax:=⟨_,rfl⟩;rw[<-hp]at x0 x1 x2;have RC:=ab (K9 hF p.l);have Mq:Hid (Calls prog 262 #[.pointer (some ⟨A,0,none⟩),.int .i64 p.l] wr λe w'=>e=.returned (.int .i64 (zO f.ow p.l:Nat))/\Below w.heap.size w w'):=ab ((NL hF ho p.l).mono (by
    rintro e w' ⟨rfl,aU⟩;exact⟨rfl,(uh hb).trans (aU.mono (uh hb).size)⟩))
   have pi:DO f p=(!(RY f p.l||decide (p.r=p.l))&&decide (zO f.ow p.l=1)):=rfl;have pX:Hid (DO f p=false->∀j,j<k+1->DO f (f.ow.getD j ax)=false):=ab (λh0 j hj=>by
    by_cases e:j=k
    .rw[e,<-hp];exact h0
    .exact uh hn j (by omega))
   have HHT:Hid (DO f p=true->fL (tH f)=(k:Int)):=ab (λh1=>by unfold tH;rw[Zb ar (uh hn) (by rw[<-hp];exact h1)];rfl);have i1:(0:Int)<=(k:Int):=(by omega);have i2:(k:Int)<(f.ow.length:Int):=(by omega);obtain⟨b,zX⟩:∃b,b=RY f p.l:=⟨_,rfl⟩;obtain⟨m,hm⟩:∃m,m=zO f.ow p.l:=⟨_,rfl⟩;have fy:m<=100000:=(by rw[hm];exact zq3 (NJ _ _) ho);rw[<-zX]at pi RC;rw[<-hm]at pi Mq;have MA:=ab pi;clear hF hp pi zX hm;go_wp2_with fail
   refine(uh RC).mono ?_;rintro e w1 ⟨rfl,rfl⟩;clear RC;cases b with
   |true =>
    have HE:Hid (DO f p=false):=ab (by rw[uh MA];simp);go_wp2_with fail
    go_roundw
    case rel=>exact⟨k+1,by omega,by go_num,hb,ab (uh pX (uh HE))⟩
    case measure=>simp[intOf];omega
   |false =>
    by_cases e1:p.r=p.l
    .have b1:((p.r:Int)==(p.l:Int))=true:=(by simp[e1]);have HE:Hid (DO f p=false):=ab (by rw[uh MA];simp[e1]);clear e1;go_wp2_with fail
     go_roundw
     case rel=>exact⟨k+1,by omega,by go_num,hb,ab (uh pX (uh HE))⟩
     case measure=>simp[intOf];omega
    .have b1:((p.r:Int)==(p.l:Int))=false:=(by simp;omega);have HE0:Hid (DO f p=decide (m=1)):=ab (by rw[uh MA];simp[e1]);clear e1;go_wp2_with fail
     refine(uh Mq).mono ?_;rintro e w2 ⟨rfl,aU⟩;have eu:=ab aU;clear aU Mq;by_cases e2:m=1
     .have b2:((m:Int)==(1:Int))=true:=(by simp[e2]);have HE:Hid (fL (tH f)=(k:Int)):=ab (uh HHT (by rw[uh HE0];simp[e2]));clear e2;go_wp2_with fail
      go_ret;exact⟨br (uh HE).symm,uh eu⟩
     .have b2:((m:Int)==(1:Int))=false:=(by simp;omega);have HE:Hid (DO f p=false):=ab (by rw[uh HE0];simp[e2]);clear e2;go_wp2_with fail
      go_roundw
      case rel=>exact⟨k+1,by omega,by go_num,eu,ab (uh pX (uh HE))⟩
      case measure=>simp[intOf];omega
  .have hd:decide ((k:Int)<(f.ow.length:Int))=false:=(by simp;omega);have HE:Hid (fL (tH f)=-1):=ab (by unfold tH;rw[Tq (λj hj=>uh hn j (by omega))];rfl);clear hF;go_wp2_with fail
   go_ret;exact⟨br (uh HE).symm,uh hb⟩
end
def bP(g:Pr->Pr)(l:List Pr)(k:Nat):List Pr:=(l.take k).map g++l.drop k
theorem jL(g:Pr->Pr)(l:List Pr)(k:Nat):(bP g l k).length=l.length:=by simp[bP];omega
theorem lq{g:Pr->Pr}{l:List Pr}{k:Nat}(hk:k<l.length):(bP g l k).getD k ax=l.getD k ax:=by
 rw[jQ hk];unfold bP;rw[getD_eq_getElem?_getD,getElem?_append_right (by simp;omega)];simp[hk,Nat.min_eq_left (Nat.le_of_lt hk)]
theorem lr{g:Pr->Pr}{l:List Pr}{k:Nat}(hk:k<l.length):bP g l (k+1)=(bP g l k).set k (g (l.getD k ax)):=by
 rw[jQ hk];unfold bP;have e:l.drop k=l[k]::l.drop (k+1):=drop_eq_getElem_cons hk;have e2:(l.take (k+1)).map g=(l.take k).map g++[g l[k]]:=by
  rw[take_add_one,getElem?_eq_getElem hk,map_append];rfl
 have e3:((l.take k).map g).length=k:=by simp;omega
 rw[e2,e,set_append_right _ _ (by omega),e3,Nat.sub_self,set_cons_zero,append_assoc];rfl
theorem vQ{g:Pr->Pr}{l:List Pr}{k:Nat}(hk:l.length<=k):bP g l k=l.map g:=by
 unfold bP;rw[take_of_length_le hk,drop_eq_nil_of_le hk,append_nil]
theorem zh{l:List Pr}{k:Nat}(hk:k<l.length):l.set k (l.getD k ax)=l:=by
 rw[jQ hk,set_getElem_self]
def fo1(m e:Nat)(p:Pr):Pr:=if p.r=m then ⟨4,p.l,e⟩ else p
def jD(f:CF)(k:Nat):CF:={ f with ow:=jr (f.ow.map (fo1 (f.ow.getD k ax).l (f.ow.getD k ax).r)) k }
def dM:Nat->CF->CF
 |0,f=>f
 |n+1,f=>match tH f with|none=>f|some k=>dM n (jD f k)
def Eb(f:CF):CF:=dM f.ow.length f
theorem Q4(l:List Pr)(i k:Nat):(rh l i k).length=if i<k then k-1 else k:=by
 induction k with
 |zero=>simp[rh]
 |succ k ih =>
  rw[wQ,length_append,ih];by_cases h:k=i
  .rw[if_pos h,if_neg (by omega),if_pos (by omega)];simp
  .rw[if_neg h];by_cases h2:i<k
   .rw[if_pos h2,if_pos (by omega)];simp;omega
   .rw[if_neg h2,if_neg (by omega)];simp
theorem VR{l:List Pr}{k:Nat}(hk:k<l.length):(jr l k).length=l.length-1:=by
 unfold jr;rw[Q4,if_pos hk]
theorem ab4{f:CF}{k:Nat}(h:tH f=some k):k<f.ow.length:=by
 unfold tH at h;rw[findIdx?_eq_some_iff_getElem]at h;exact h.1
section
variable {w:World} {A:Nat} {f:CF} {av ov:Value}
theorem N3(h:Fm w A f av ov)(ho:f.ow.length<=100000):Calls prog 228 #[.pointer (some ⟨A,0,none⟩)] w λe w'=>e=.returned (.tuple #[])/\∃ov',Fm w' A (Eb f) av ov'/\au (aH A av ov) w (aH A av ov') w':=by
 have sF:=ab (DJ h.is ho);have H:=ab h;clear h;go_enter func228,ntmps228;go_wp2_with fail
 refine(uh sF).mono ?_;rintro e w1 ⟨rfl,bH⟩;have cG:Hid (Fm w1 A f av ov/\au (aH A av ov) w (aH A av ov) w1/\dM f.ow.length f=Eb f):=ab ⟨(uh H).below bH,au.ofBw bH,rfl⟩;clear bH sF;go_wp2_with fail
 go_loopg [2] f.ow.length (λgn kv wx=>∃(F:CF) (ov':Value),F.ow.length=gn/\gn<=f.ow.length/\kv=.int .i64 (fL (tH F))/\Hid (Fm wx A F av ov'/\au (aH A av ov) w (aH A av ov') wx/\dM gn F=Eb f))
 case atStart=>exact⟨f,ov,rfl,zq4 _,rfl,cG⟩
 case round =>
  clear cG;obtain⟨F,ov',dL,hgn,rfl,hI⟩:=hrel;obtain⟨G,hG⟩:∃G,G=gk:=⟨_,rfl⟩;cases pi:tH F with
  |none =>
   have HE:Hid (F=Eb f):=ab (by
    have:=(uh hI).2.2;rw[<-this];cases gk with
    |zero=>rfl
    |succ n=>simp[dM,pi])
   clear pi;go_wp2_with fail
   go_end0
   exact⟨rfl,ov',by rw[<-uh HE];exact(uh hI).1,(uh hI).2.1⟩
  |some k =>
   have j5:=ab4 pi;have pX:Hid (dM (gk-1) (jD F k)=Eb f):=ab (by
    have h1:=(uh hI).2.2;rw[<-h1,show gk=gk-1+1 by omega];simp[dM,pi])
   obtain⟨p,hp⟩:∃p,p=F.ow.getD k ax:=⟨_,rfl⟩;have LK:Hid (jD F k={ F with ow:=jr (F.ow.map (fo1 p.l p.r)) k }):=ab (by unfold jD;rw[<-hp]);obtain⟨g,cap,dQ,mC,fZ⟩:=aE (uh hI).1.is.ow j5;subst dQ;have c6:=(uh hI).1.is.c6;obtain⟨-,x1,x2⟩:=aD (uh hI).1.is.ow j5;rw[<-hp]at x1 x2;have d0:decide ((0:Int)<=(k:Int))=true:=(by simp);have i1:(0:Int)<=(k:Int):=(by omega);have i2:(k:Int)<(F.ow.length:Int):=(by omega);have fs:Hid (Fm wr A { F with ow:=bP (fo1 p.l p.r) F.ow 0 } av (.slice (some ⟨g,0,none⟩) F.ow.length cap)/\au (aH A av ov) w (aH A av (.slice (some ⟨g,0,none⟩) F.ow.length cap)) wr):=ab ⟨by simpa[bP] using (uh hI).1,(uh hI).2.1⟩;have We:=ab dL;clear pi hp hI dL;rw[show fL (some k)=(k:Int) from rfl];go_wp2_with fail
   go_loopg [5] F.ow.length (λgn i wx=>∃(j:Nat),j+gn=F.ow.length/\i=.int .i64 j/\Hid (Fm wx A { F with ow:=bP (fo1 p.l p.r) F.ow j } av (.slice (some ⟨g,0,none⟩) F.ow.length cap)/\au (aH A av ov) w (aH A av (.slice (some ⟨g,0,none⟩) F.ow.length cap)) wx))
   case atStart=>exact⟨0,by omega,rfl,fs⟩
   case round =>
    clear fs x1 x2 c6;obtain⟨j,BO,rfl,hJ⟩:=hrel;obtain⟨G2,Fi⟩:∃G2,G2=gk:=⟨_,rfl⟩;have c6:=(uh hJ).1.is.c6;have fy:=jL (fo1 p.l p.r) F.ow j;by_cases ar:j<F.ow.length
    .have hd:decide ((j:Int)<(F.ow.length:Int))=true:=(by simp;omega);have bE:wr.ownsRow 0 182 3 (.slice (some ⟨g,0,none⟩) F.ow.length cap) F.ow.length (af (bP (fo1 p.l p.r) F.ow j)):=by
      have:=(uh hJ).1.is.ow;rwa [show({ F with ow:=bP (fo1 p.l p.r) F.ow j }:CF).ow.length=F.ow.length from fy]at this
     have vB:wr.ownsRow 0 182 3 (.slice (some ⟨g,0,none⟩) (bP (fo1 p.l p.r) F.ow j).length cap) (bP (fo1 p.l p.r) F.ow j).length (af (bP (fo1 p.l p.r) F.ow j)):=(by rw[fy];exact bE);obtain⟨y0,-,y2⟩:=aD vB (i:=j) (by omega);obtain⟨q,hq⟩:∃q,q=F.ow.getD j ax:=⟨_,rfl⟩;rw[lq ar,<-hq]at y0 y2;have z0:=bE.frozenAt (j*3);have k1:(0:Int)<=(j:Int):=(by omega);have k2:(j:Int)<(F.ow.length:Int):=(by omega);by_cases e1:q.r=p.l
     .have b1:((q.r:Int)==(p.l:Int))=true:=(by simp[e1]);have r1:=(bE.stored (j*3) (.int .i64 4)).1;rw[show(Value.int .i64 4)=Value.int .i64 ((4:Nat):Int) from rfl,mf (by omega),lq ar,<-hq]at r1;have z2:(wr.setCell ⟨g,j*3,none⟩ (.int .i64 4)).frozen? ⟨g,j*3+2,none⟩=false:=r1.frozenAt (j*3+2);have y2':(wr.setCell ⟨g,j*3,none⟩ (.int .i64 4)).cell? ⟨g,j*3+2,none⟩=some (.int .i64 (q.r:Int)):=(by rw[cell?_setCell_other _ _ _ _ (by simp)];exact y2);have r2:=(r1.stored (j*3+2) (.int .i64 (p.r:Int))).1;rw[eX (by simp;omega)]at r2;have e2:((bP (fo1 p.l p.r) F.ow j).set j ⟨4,q.l,q.r⟩).set j ⟨(((bP (fo1 p.l p.r) F.ow j).set j ⟨4,q.l,q.r⟩).getD j ax).k,(((bP (fo1 p.l p.r) F.ow j).set j ⟨4,q.l,q.r⟩).getD j ax).l,p.r⟩=bP (fo1 p.l p.r) F.ow (j+1):=by
       rw[lr ar,<-hq,set_set];have:((bP (fo1 p.l p.r) F.ow j).set j ⟨4,q.l,q.r⟩).getD j ax=⟨4,q.l,q.r⟩:=by
        rw[getD_eq_getElem?_getD,getElem?_set_self (by omega)];rfl
       rw[this];unfold fo1;rw[if_pos e1]
      rw[e2]at r2;have hs:au (Value.slice (some ⟨g,0,none⟩) F.ow.length cap).ownBlock.toList wr (Value.slice (some ⟨g,0,none⟩) F.ow.length cap).ownBlock.toList ((wr.setCell ⟨g,j*3,none⟩ (.int .i64 4)).setCell ⟨g,j*3+2,none⟩ (.int .i64 (p.r:Int))):=((au.refl _ _).setCell (p:=⟨g,j*3,none⟩) (zq0 (by simp[Value.ownBlock])) _).setCell (p:=⟨g,j*3+2,none⟩) (zq0 (by simp[Value.ownBlock])) _;have hN:=(uh hJ).1.newRow (ow':=bP (fo1 p.l p.r) F.ow (j+1)) (by rw[jL,jL]) (by rw[show({ F with ow:=bP (fo1 p.l p.r) F.ow j }:CF).ow.length=F.ow.length from fy];exact r2) hs;have c6':(wr.setCell ⟨g,j*3,none⟩ (.int .i64 4)).cell? ⟨A,6,none⟩=some (.slice (some ⟨g,0,none⟩) F.ow.length cap):=by
       rw[cell?_setCell_other _ _ _ _ (by intro e;have:=(uh hJ).1.nds.2.1;simp at e;exact this (by rw[e.1];rfl))];exact c6
      have HN:Hid (Fm ((wr.setCell ⟨g,j*3,none⟩ (.int .i64 4)).setCell ⟨g,j*3+2,none⟩ (.int .i64 (p.r:Int))) A { F with ow:=bP (fo1 p.l p.r) F.ow (j+1) } av (.slice (some ⟨g,0,none⟩) F.ow.length cap)/\au (aH A av ov) w (aH A av (.slice (some ⟨g,0,none⟩) F.ow.length cap)) ((wr.setCell ⟨g,j*3,none⟩ (.int .i64 4)).setCell ⟨g,j*3+2,none⟩ (.int .i64 (p.r:Int)))):=ab ⟨hN.1,(uh hJ).2.trans hN.2⟩;clear e1 r1 r2 e2 hs hN bE vB hq fy hJ;go_wp2_with fail
      go_roundg (G2-1)
      case rel=>exact⟨j+1,by omega,by go_num,HN⟩
      case measure=>omega
     .have b1:((q.r:Int)==(p.l:Int))=false:=(by simp;omega);have HE:Hid (bP (fo1 p.l p.r) F.ow (j+1)=bP (fo1 p.l p.r) F.ow j):=ab (by
       rw[lr ar,<-hq,show fo1 p.l p.r q=q from if_neg e1];have h1:=zh (l:=bP (fo1 p.l p.r) F.ow j) (k:=j) (by omega);rw[lq ar,<-hq]at h1;exact h1)
      clear e1 bE vB hq fy;go_wp2_with fail
      go_roundg (G2-1)
      case rel=>exact⟨j+1,by omega,by go_num,ab (by rw[uh HE];exact uh hJ)⟩
      case measure=>omega
    .have hd:decide ((j:Int)<(F.ow.length:Int))=false:=(by simp;omega);have hF:Fm wr A { F with ow:=F.ow.map (fo1 p.l p.r) } av (.slice (some ⟨g,0,none⟩) F.ow.length cap):=by
      have:=(uh hJ).1;rwa [vQ (by omega)]at this
     have HT:=ab (yH hF (by simp;have:=uh We;omega) k);have db:=ab (uh hJ).2;clear hF fy hJ;go_wp2_with fail
     refine(uh HT).mono ?_;rintro e w2 ⟨rfl,ov2,qb,gQ⟩;have vt:(jr (F.ow.map (fo1 p.l p.r)) k).length=F.ow.length-1:=(by rw[VR (by simpa using j5)];simp);have cS:=ab (DJ qb.is (by show(jr (F.ow.map (fo1 p.l p.r)) k).length<=100000;have:=uh We;omega));have xI:=ab qb;have Sy:=ab ((uh db).trans gQ);have HL2:=ab vt;clear qb gQ vt HT c6;go_wp2_with fail
     refine(uh cS).mono ?_;rintro e w3 ⟨rfl,du⟩;have HF3:Hid (Fm w3 A (jD F k) av ov2/\au (aH A av ov) w (aH A av ov2) w3):=ab ⟨by rw[uh LK];exact(uh xI).below du,(uh Sy).trans (au.ofBw du)⟩;clear du cS;go_wp2_with fail
     go_roundg (G-1)
     case rel =>
      have h1:=uh We;refine⟨jD F k,ov2,?_,by omega,by rw[uh LK],ab ⟨(uh HF3).1,(uh HF3).2,?_⟩⟩
      .rw[uh LK];show(jr (F.ow.map (fo1 p.l p.r)) k).length=_;rw[uh HL2];omega
      .rw[hG];exact uh pX
     case measure=>have:=uh We;omega
end
def LV(p q:Pr):Bool:=decide (p.l<q.l)||(decide (p.l=q.l)&&decide (p.r<q.r))
def prV(p:Pr):Value:=.agg #[.int .i64 (p.k:Int),.int .i64 (p.l:Int),.int .i64 (p.r:Int)]
section
variable {w:World}
theorem ER(p q:Pr):Calls prog 249 #[prV p,prV q] w λe w'=>e=.returned (.bool (LV p q))/\Below w.heap.size w w':=by
 have HB:Hid (Below w.heap.size w ((w.alloc (.cells #[.int .i64 (p.k:Int),.int .i64 (p.l:Int),.int .i64 (p.r:Int)] 182)).alloc (.cells #[.int .i64 (q.k:Int),.int .i64 (q.l:Int),.int .i64 (q.r:Int)] 182))):=ab (((Below.refl _ _).alloc (zq4 _) _).alloc (by simp) _);unfold prV;obtain⟨b,hb⟩:∃b,b=LV p q:=⟨_,rfl⟩;rw[<-hb];unfold LV at hb;obtain⟨pk,pl,pr⟩:=p;obtain⟨qk,ql,qr⟩:=q;simp only at hb ⊢;by_cases h1:pl<ql
 .have HE:Hid (b=true):=ab (by rw[hb];simp[h1]);clear hb;go_enter func249,ntmps249;go_wp2_with fail
  go_ret;exact⟨aB (uh HE).symm,uh HB⟩
 .by_cases h2:pl=ql
  .subst h2;have HE:Hid (b=decide (pr<qr)):=ab (by rw[hb];simp);clear hb h1;go_enter func249,ntmps249;go_wp2_with fail
   go_ret;exact⟨aB (uh HE).symm,uh HB⟩
  .have HE:Hid (b=false):=ab (by rw[hb];simp[h1,h2]);have h3:ql<pl:=(by omega);clear hb h1;go_enter func249,ntmps249;go_wp2_with fail
   go_ret;exact⟨aB (by rw[uh HE];simp;omega),uh HB⟩
theorem CD(a b:Nat):Calls prog 265 #[.int .i64 a,.int .i64 b] w λe w'=>e=.returned (.int .i64 (max a b:Nat))/\w'=w:=by
 by_cases h:b<a
 .have HE:Hid (max a b=a):=ab (by omega);go_enter func265,ntmps265;go_wp2_with fail
  go_ret;exact⟨br (by rw[uh HE]),rfl⟩
 .have HE:Hid (max a b=b):=ab (by omega);go_enter func265,ntmps265;go_wp2_with fail
  go_ret;exact⟨br (by rw[uh HE]),rfl⟩
end
def qT(m:Nat)(l:List Pr):Nat:=l.foldl (λm p=>max (max m p.l) p.r) m
def qf(f:CF):Nat:=max (max (max (max (max 0 (f.cl.getD 0 0)) (f.cl.getD 1 0)) (f.cl.getD 2 0)) (f.cl.getD 3 0)) (f.cl.getD 4 0)
def aw(f:CF):Nat:=qT (qT (qf f) f.ow) f.ap+1
theorem Dm{m:Nat}{l:List Pr}{k:Nat}(hk:k<l.length):qT m (l.take (k+1))=max (max (qT m (l.take k)) (l.getD k ax).l) (l.getD k ax).r:=by
 rw[jQ hk];unfold qT;rw[take_add_one,getElem?_eq_getElem hk,foldl_append];rfl
section
variable {w:World} {A:Nat} {f:CF} {av ov:Value}
theorem ve(h:ew w A f av ov)(ha:f.ap.length<=100000)(ho:f.ow.length<=100000)(hm:aw f<=100000):Calls prog 258 #[.pointer (some ⟨A,0,none⟩)] w λe w'=>e=.returned (.int .i64 (aw f:Nat))/\Below w.heap.size w w':=by
 obtain⟨oa,oc,gj,-,-⟩:=aj h.ow;subst gj;obtain⟨aa,ac,l5,-,-⟩:=aj h.ap;subst l5;have x0:=h.cls (i:=0) (by omega);have x1:=h.cls (i:=1) (by omega);have x2:=h.cls (i:=2) (by omega);have x3:=h.cls (i:=3) (by omega);have x4:=h.cls (i:=4) (by omega);unfold gZ at x0 x1 x2 x3 x4;obtain⟨y0,e0⟩:∃y,y=f.cl.getD 0 0:=⟨_,rfl⟩;obtain⟨y1,e1⟩:∃y,y=f.cl.getD 1 0:=⟨_,rfl⟩;obtain⟨y2,e2⟩:∃y,y=f.cl.getD 2 0:=⟨_,rfl⟩;obtain⟨y3,e3⟩:∃y,y=f.cl.getD 3 0:=⟨_,rfl⟩;obtain⟨y4,e4⟩:∃y,y=f.cl.getD 4 0:=⟨_,rfl⟩;have HC:Hid (qf f=max (max (max (max (max 0 y0) y1) y2) y3) y4):=ab (by unfold qf;rw[e0,e1,e2,e3,e4]);rw[<-e0]at x0;rw[<-e1]at x1;rw[<-e2]at x2;rw[<-e3]at x3;rw[<-e4]at x4;have j0:=Al (.int .i64 (y0:Int)) (.int .i64 (y1:Int)) (.int .i64 (y2:Int)) (.int .i64 (y3:Int)) (.int .i64 (y4:Int));have j1:=Am (.int .i64 (y0:Int)) (.int .i64 (y1:Int)) (.int .i64 (y2:Int)) (.int .i64 (y3:Int)) (.int .i64 (y4:Int));have j2:=Ao (.int .i64 (y0:Int)) (.int .i64 (y1:Int)) (.int .i64 (y2:Int)) (.int .i64 (y3:Int)) (.int .i64 (y4:Int));have j3:=Ap (.int .i64 (y0:Int)) (.int .i64 (y1:Int)) (.int .i64 (y2:Int)) (.int .i64 (y3:Int)) (.int .i64 (y4:Int));have j4:=Aq (.int .i64 (y0:Int)) (.int .i64 (y1:Int)) (.int .i64 (y2:Int)) (.int .i64 (y3:Int)) (.int .i64 (y4:Int));have c6:=h.c6;have c5:=h.c5;have H:=ab h;have HM:=ab hm;have HG:Hid (∀(W:World) (a b:Nat),Calls prog 265 #[.int .i64 a,.int .i64 b] W λe w'=>e=.returned (.int .i64 (max a b:Nat))/\w'=W):=ab (λW a b=>CD a b);clear h e0 e1 e2 e3 e4 hm;go_enter func258,ntmps258;go_wp2_with fail
 go_loop [3,14] (λm i=>∃(k:Nat),k<=5/\i=.int .i64 k/\m=.int .i64 ((([y0,y1,y2,y3,y4].take k).foldl max 0:Nat):Int)) (λ_ i=>5-(intOf i).toNat)
 case atStart=>exact⟨0,zq5 _,rfl,rfl⟩
 case round =>
  obtain⟨k,hk,rfl,rfl⟩:=hrel;obtain⟨m,BQ⟩:∃m,m=([y0,y1,y2,y3,y4].take k).foldl max 0:=⟨_,rfl⟩;rw[<-BQ];have Mu:=ab BQ;clear BQ;have vp:k=0\/k=1\/k=2\/k=3\/k=4\/k=5:=by omega
  rcases vp with rfl|rfl|rfl|rfl|rfl|rfl
  .go_wp2_with fail
   refine(uh HG _ _ _).mono ?_;rintro e w1 ⟨rfl,rfl⟩;go_wp2_with fail
   go_round
   case rel=>exact⟨1,by omega,by go_num,by rw[uh Mu];rfl⟩
   case measure=>simp[intOf]
  .go_wp2_with fail
   refine(uh HG _ _ _).mono ?_;rintro e w1 ⟨rfl,rfl⟩;go_wp2_with fail
   go_round
   case rel=>exact⟨2,by omega,by go_num,by rw[uh Mu];rfl⟩
   case measure=>simp[intOf]
  .go_wp2_with fail
   refine(uh HG _ _ _).mono ?_;rintro e w1 ⟨rfl,rfl⟩;go_wp2_with fail
   go_round
   case rel=>exact⟨3,by omega,by go_num,by rw[uh Mu];rfl⟩
   case measure=>simp[intOf]
  .go_wp2_with fail
   refine(uh HG _ _ _).mono ?_;rintro e w1 ⟨rfl,rfl⟩;go_wp2_with fail
   go_round
   case rel=>exact⟨4,by omega,by go_num,by rw[uh Mu];rfl⟩
   case measure=>simp[intOf]
  .go_wp2_with fail
   refine(uh HG _ _ _).mono ?_;rintro e w1 ⟨rfl,rfl⟩;go_wp2_with fail
   go_round
   case rel=>exact⟨5,by omega,by go_num,by rw[uh Mu];rfl⟩
   case measure=>simp[intOf]
  .have hmc:m=qf f:=(by rw[uh Mu,uh HC];rfl);have JG:=ab (Below.refl w.heap.size w);have db:Hid (m=qT (qf f) (f.ow.take 0)):=ab (by rw[hmc];rfl);clear Mu hmc j0 j1 j2 j3 j4 x0 x1 x2 x3 x4 HC;go_wp2_with fail
   go_loopw [3,26] (λmv i wx=>∃(k:Nat),k<=f.ow.length/\i=.int .i64 k/\mv=.int .i64 (qT (qf f) (f.ow.take k):Nat)/\Hid (Below w.heap.size w wx)) (λ_ i _=>f.ow.length-(intOf i).toNat)
   case atStart=>exact⟨0,zq5 _,rfl,by rw[<-uh db],JG⟩
   case round =>
    clear db JG;obtain⟨k,hk,rfl,rfl,hb⟩:=hrel;obtain⟨m,BQ⟩:∃m,m=qT (qf f) (f.ow.take k):=⟨_,rfl⟩;rw[<-BQ];have hF:=(uh H).below (uh hb);by_cases ar:k<f.ow.length
    .have hd:decide ((k:Int)<(f.ow.length:Int))=true:=(by simp;omega);obtain⟨g,cap,dQ,-,-⟩:=aE hF.ow ar;simp only[Value.slice.injEq,true_and]at dQ;obtain⟨rfl,rfl⟩:=dQ;obtain⟨x0,x1,x2⟩:=aD hF.ow ar;have aV:=Dm (m:=qf f) ar;obtain⟨p,hp⟩:∃p,p=f.ow.getD k ax:=⟨_,rfl⟩;rw[<-hp]at x0 x1 x2 aV;rw[<-BQ]at aV;have db:=ab aV;have fU:Hid (Below w.heap.size w (wr.alloc (.cells #[.int .i64 (p.k:Int),.int .i64 (p.l:Int),.int .i64 (p.r:Int)] 182))):=ab ((uh hb).alloc (uh hb).size _);have i1:(0:Int)<=(k:Int):=(by omega);have i2:(k:Int)<(f.ow.length:Int):=(by omega);clear hF hp aV BQ;go_wp2_with fail
     refine(uh HG _ _ _).mono ?_;rintro e w1 ⟨rfl,rfl⟩;go_wp2_with fail
     refine(uh HG _ _ _).mono ?_;rintro e w1 ⟨rfl,rfl⟩;go_wp2_with fail
     go_roundw
     case rel=>exact⟨k+1,by omega,by go_num,by rw[uh db,Nat.max_assoc],fU⟩
     case measure=>simp[intOf];omega
    .have hd:decide ((k:Int)<(f.ow.length:Int))=false:=(by simp;omega);have kk:m=qT (qT (qf f) f.ow) (f.ap.take 0):=(by rw[BQ,take_of_length_le (by omega)];rfl);have Wc:=ab kk;have c5':=hF.c5;clear hF BQ kk;go_wp2_with fail
     go_loopw [3,44] (λmv i wx=>∃(k:Nat),k<=f.ap.length/\i=.int .i64 k/\mv=.int .i64 (qT (qT (qf f) f.ow) (f.ap.take k):Nat)/\Hid (Below w.heap.size w wx)) (λ_ i _=>f.ap.length-(intOf i).toNat)
     case atStart=>exact⟨0,zq5 _,rfl,by rw[<-uh Wc],hb⟩
     case round =>
      clear Wc hb;obtain⟨k2,mF,rfl,rfl,hb⟩:=hrel;obtain⟨m2,BQ⟩:∃m,m=qT (qT (qf f) f.ow) (f.ap.take k2):=⟨_,rfl⟩;rw[<-BQ];have hF:=(uh H).below (uh hb);by_cases cd:k2<f.ap.length
      .have kj:decide ((k2:Int)<(f.ap.length:Int))=true:=(by simp;omega);obtain⟨g,cap,dQ,-,-⟩:=aE hF.ap cd;simp only[Value.slice.injEq,true_and]at dQ;obtain⟨rfl,rfl⟩:=dQ;obtain⟨x0,x1,x2⟩:=aD hF.ap cd;have aV:=Dm (m:=qT (qf f) f.ow) cd;obtain⟨p,hp⟩:∃p,p=f.ap.getD k2 ax:=⟨_,rfl⟩;rw[<-hp]at x0 x1 x2 aV;rw[<-BQ]at aV;have db:=ab aV;have fU:Hid (Below w.heap.size w (wr.alloc (.cells #[.int .i64 (p.k:Int),.int .i64 (p.l:Int),.int .i64 (p.r:Int)] 182))):=ab ((uh hb).alloc (uh hb).size _);have i1:(0:Int)<=(k2:Int):=(by omega);have i2:(k2:Int)<(f.ap.length:Int):=(by omega);clear hF hp aV BQ;go_wp2_with fail
       refine(uh HG _ _ _).mono ?_;rintro e w1 ⟨rfl,rfl⟩;go_wp2_with fail
       refine(uh HG _ _ _).mono ?_;rintro e w1 ⟨rfl,rfl⟩;go_wp2_with fail
       go_roundw
       case rel=>exact⟨k2+1,by omega,by go_num,by rw[uh db,Nat.max_assoc],fU⟩
       case measure=>simp[intOf];omega
      .have kj:decide ((k2:Int)<(f.ap.length:Int))=false:=(by simp;omega);have hE:m2+1=aw f:=(by unfold aw;rw[BQ,take_of_length_le (by omega)]);have fy:m2<=100000:=(by have:=uh HM;omega);have HE:=ab hE;clear hF BQ hE;go_wp2_with fail
       go_ret;exact⟨br (by rw[<-uh HE];go_num),uh hb⟩
end
def kP(f:CF):List Nat:=[f.cl.getD 0 0,f.cl.getD 1 0,f.cl.getD 2 0,f.cl.getD 3 0,f.cl.getD 4 0]
def bQ(f:CF):List Nat:=kP f++f.ow.flatMap (λp=>[p.l,p.r])
def xQ(f:CF)(p:Pr):Bool:=decide (p.l∈bQ f)&&decide (p.r∈bQ f)&&!lV f p.l p.r
def dm(f:CF):CF:={ f with ap:=f.ap.filter (xQ f) }
def iT(ms:List Nat)(c:Nat):List Nat:=if c∈ms then ms else ms++[c]
def CC(ms:List Nat)(c:Nat):Nat:=if c∈ms then ms.idxOf c+1 else 0
def zm(f:CF)(k:Nat)(ms:List Nat):List Nat :=
 match cU f.ow (ms.getD k 0) with
 |some i=>iT ms (f.ow.getD i ax).r
 |none=>ms
def oV(f:CF):Nat->Nat->List Nat->List Nat
 |0,_,ms=>ms
 |n+1,k,ms=>if k<ms.length then oV f n (k+1) (zm f k ms) else ms
def zc(f:CF)(ms:List Nat)(p:Pr):List Nat:=oV f 25 ms.length (iT ms p.l)
def b8(f:CF):List Nat:=f.ow.foldl (zc f) (oV f 25 0 ((kP f).foldl iT []))
def jf(ms:List Nat)(p:Pr):Pr:=⟨p.k,ms.idxOf p.l,ms.idxOf p.r⟩
def qg(f:CF):CF:=⟨(kP f).map (λc=>(b8 f).idxOf c),f.ap.map (jf (b8 f)),f.ow.map (jf (b8 f))⟩
def d9(ms:List Nat):Prop:=ms.Nodup/\∀c∈ms,c<24
theorem d9.len{ms:List Nat}(h:d9 ms):ms.length<=24:=by
 have:=List.Nodup.length_le_of_subset h.1 (l₂:=range 24) (λc hc=>by simpa using h.2 c hc);simpa using this
theorem d9.nil:d9 []:=⟨nodup_nil,λc hc=>by simp at hc⟩
theorem d9.me{ms:List Nat}(h:d9 ms){c:Nat}(hc:c<24):d9 (iT ms c):=by
 unfold iT;split
 .exact h
 .rename_i hn;refine⟨?_,λd hd=>?_⟩
  .rw[nodup_append];exact⟨h.1,by simp,λa ha b hb e=>by simp only[mem_singleton]at hb;subst hb;subst e;exact hn ha⟩
  .rw[mem_append,mem_singleton]at hd;rcases hd with hd|rfl
   .exact h.2 d hd
   .exact hc
theorem uc{ms:List Nat}{c d:Nat}(h:d∈ms):d∈iT ms c:=by unfold iT;split;exact h;exact mem_append_left _ h
theorem AG(ms:List Nat)(c:Nat):c∈iT ms c:=by unfold iT;split;assumption;simp
theorem UZ(ms:List Nat)(c:Nat):ms.length<=(iT ms c).length:=by unfold iT;split <;> simp
theorem IV{ms:List Nat}{c k:Nat}(hk:k<ms.length):(iT ms c).getD k 0=ms.getD k 0:=by
 unfold iT;split
 .rfl
 .simp[getD_eq_getElem?_getD,getElem?_append_left hk]
theorem eC:∀{l:List Pr} {c i:Nat},cU l c=some i->i<l.length/\(l.getD i ax).l=c
 |[],_,_,h=>by simp[cU]at h
 |p::r,c,i,h=>by
  unfold cU at h;split at h
  .injection h with h;subst h;rename_i e;exact⟨by simp,by simpa using e⟩
  .obtain⟨j,hj,rfl⟩:=Option.map_eq_some_iff.1 h;obtain⟨h1,h2⟩:=eC hj;exact⟨by simp only[length_cons];omega,by rw[getD_cons_succ];exact h2⟩
theorem tO{l:List Pr}{c i:Nat}(h:cU l c=some i):l.getD i ax∈l:=by
 obtain⟨h1,-⟩:=eC h;rw[getD_eq_getElem?_getD,getElem?_eq_getElem h1];exact getElem_mem h1
def mM(l:List Pr):Prop:=(l.map (·.l)).Nodup
theorem uR{l:List Pr}{p:Pr}(hN:mM l)(hp:p∈l):∃i,cU l p.l=some i/\l.getD i ax=p:=by
 induction l with
 |nil=>simp at hp
 |cons q r ih =>
  unfold mM at hN;rw[map_cons,nodup_cons]at hN;rcases mem_cons.1 hp with rfl|hp
  .exact⟨0,by simp[cU],by simp⟩
  .obtain⟨i,h1,h2⟩:=ih hN.2 hp;have aL:¬ (q.l=p.l):=λe=>hN.1 (by rw[e];exact mem_map_of_mem (f:=(·.l)) hp);exact⟨i+1,by unfold cU;rw[if_neg aL,h1];rfl,by simpa using h2⟩
section
variable {f:CF}
theorem QW(hO:∀p∈f.ow,p.l<24/\p.r<24){k:Nat}{ms:List Nat}(h:d9 ms):d9 (zm f k ms):=by
 unfold zm;split
 .rename_i i hi;exact h.me (hO _ (tO hi)).2
 .exact h
theorem VG{k:Nat}{ms:List Nat}{d:Nat}(h:d∈ms):d∈zm f k ms:=by unfold zm;split;exact uc h;exact h
theorem Jr(f:CF)(k:Nat)(ms:List Nat):ms.length<=(zm f k ms).length:=by unfold zm;split;exact UZ _ _;exact zq4 _
theorem Jq{k:Nat}{ms:List Nat}{j:Nat}(h:j<ms.length):(zm f k ms).getD j 0=ms.getD j 0:=by unfold zm;split;exact IV h;rfl
theorem Gx(hO:∀p∈f.ow,p.l<24/\p.r<24):∀(n k:Nat) {ms:List Nat},d9 ms->d9 (oV f n k ms)
 |0,_,_,h=>h
 |n+1,k,ms,h=>by
  unfold oV;split
  .exact Gx hO n (k+1) (QW hO h)
  .exact h
theorem oC:∀(n k:Nat) {ms:List Nat} {d:Nat},d∈ms->d∈oV f n k ms
 |0,_,_,_,h=>h
 |n+1,k,ms,d,h=>by
  unfold oV;split
  .exact oC n (k+1) (VG h)
  .exact h
theorem Bj:∀(n k:Nat) {ms:List Nat} {j:Nat},j<ms.length->j<(oV f n k ms).length/\(oV f n k ms).getD j 0=ms.getD j 0
 |0,_,_,_,h=>⟨h,rfl⟩
 |n+1,k,ms,j,h=>by
  unfold oV;split
  .obtain⟨h1,h2⟩:=Bj n (k+1) (ms:=zm f k ms) (j:=j) (zq6 h (Jr f k ms));exact⟨h1,h2.trans (Jq h)⟩
  .exact⟨h,rfl⟩
theorem Jp(hO:∀p∈f.ow,p.l<24/\p.r<24):∀(n k:Nat) {ms:List Nat},d9 ms->24<n+k->∀j,k<=j->j<(oV f n k ms).length->∀i,cU f.ow ((oV f n k ms).getD j 0)=some i->(f.ow.getD i ax).r∈oV f n k ms
 |0,k,ms,h,hk,j,hj,hl,i,hi=>by
  have:=h.len;unfold oV at hl;omega
 |n+1,k,ms,h,hk,j,hj,hl,i,hi=>by
  unfold oV at hl hi ⊢;split at hl
  .rename_i ar;rw[if_pos ar]at hi ⊢;by_cases e:k=j
   .subst e;obtain⟨-,h2⟩:=Bj (f:=f) n (k+1) (ms:=zm f k ms) (j:=k) (zq6 ar (Jr f k ms));rw[h2,Jq ar]at hi;refine oC n (k+1) ?_;unfold zm;rw[hi];exact AG _ _
   .exact Jp hO n (k+1) (QW hO h) (by omega) j (by omega) hl i hi
  .rename_i ar;omega
def Clo(f:CF)(ms:List Nat):Prop:=∀c∈ms,∀i,cU f.ow c=some i->(f.ow.getD i ax).r∈ms
theorem Ng(hO:∀p∈f.ow,p.l<24/\p.r<24){n k:Nat}{ms:List Nat}(h:d9 ms)(hk:24<n+k)(hc:∀j,j<k->j<ms.length->∀i,cU f.ow (ms.getD j 0)=some i->(f.ow.getD i ax).r∈ms):Clo f (oV f n k ms):=by
 intro c CN i hi;obtain⟨j,hj,rfl⟩:=mem_iff_getElem.1 CN;have e:(oV f n k ms).getD j 0=(oV f n k ms)[j]:=by rw[getD_eq_getElem?_getD,getElem?_eq_getElem hj];rfl
 by_cases ar:k<=j
 .exact Jp hO n k h hk j ar hj i (by rw[e];exact hi)
 .by_cases sP:j<ms.length
  .obtain⟨-,h2⟩:=Bj (f:=f) n k sP;exact oC n k (hc j (by omega) sP i (by rw[<-h2,e];exact hi))
  .exfalso;cases n with
   |zero=>unfold oV at hj;omega
   |succ n =>
    unfold oV at hj;rw[if_neg (by omega)]at hj;omega
theorem abQ(hO:∀p∈f.ow,p.l<24/\p.r<24){ms:List Nat}{p:Pr}(hp:p∈f.ow)(h:d9 ms)(hc:Clo f ms):d9 (zc f ms p)/\Clo f (zc f ms p)/\p.l∈zc f ms p/\∀d∈ms,d∈zc f ms p:=by
 have h1:=h.me (hO p hp).1;refine⟨Gx hO _ _ h1,Ng hO h1 (by omega) (λj hj _ i hi=>?_),oC _ _ (AG _ _),λd hd=>oC _ _ (uc hd)⟩;rw[IV hj]at hi;refine uc (hc _ ?_ i hi);rw[getD_eq_getElem?_getD,getElem?_eq_getElem hj];exact getElem_mem hj
theorem QJ(hO:∀p∈f.ow,p.l<24/\p.r<24):∀(l:List Pr) {ms:List Nat},(∀p∈l,p∈f.ow)->d9 ms->Clo f ms->d9 (l.foldl (zc f) ms)/\Clo f (l.foldl (zc f) ms)/\(∀p∈l,p.l∈l.foldl (zc f) ms)/\∀d∈ms,d∈l.foldl (zc f) ms
 |[],ms,_,h,hc=>⟨h,hc,λp hp=>by simp at hp,λd hd=>hd⟩
 |p::r,ms,hl,h,hc=>by
  obtain⟨h1,h2,h3,h4⟩:=abQ hO (hl p (by simp)) h hc;obtain⟨g1,g2,g3,g4⟩:=QJ hO r (λq hq=>hl q (by simp[hq])) h1 h2;rw[foldl_cons];exact⟨g1,g2,λq hq=>by
   rcases mem_cons.1 hq with rfl|hq
   .exact g4 _ h3
   .exact g3 q hq,λd hd=>g4 d (h4 d hd)⟩
theorem AE:∀(l:List Nat) {ms:List Nat},(∀c∈l,c<24)->d9 ms->d9 (l.foldl iT ms)/\(∀c∈l,c∈l.foldl iT ms)/\∀d∈ms,d∈l.foldl iT ms
 |[],ms,_,h=>⟨h,λc hc=>by simp at hc,λd hd=>hd⟩
 |c::r,ms,hl,h=>by
  obtain⟨g1,g2,g3⟩:=AE r (λd hd=>hl d (by simp[hd])) (h.me (hl c (by simp)));rw[foldl_cons];exact⟨g1,λd hd=>by
   rcases mem_cons.1 hd with rfl|hd
   .exact g3 _ (AG _ _)
   .exact g2 d hd,λd hd=>g3 d (uc hd)⟩
theorem q9(hO:∀p∈f.ow,p.l<24/\p.r<24)(hC:∀c∈kP f,c<24):d9 (b8 f)/\Clo f (b8 f)/\(∀c∈kP f,c∈b8 f)/\∀p∈f.ow,p.l∈b8 f:=by
 obtain⟨h1,h2,-⟩:=AE (kP f) hC d9.nil;have h3:=Ng hO (n:=25) (k:=0) h1 (by omega) (λj hj=>by omega);obtain⟨g1,g2,g3,g4⟩:=QJ hO f.ow (λp hp=>hp) (Gx hO 25 0 h1) h3;exact⟨g1,g2,λc hc=>g4 c (oC _ _ (h2 c hc)),g3⟩
theorem iQ(hO:∀p∈f.ow,p.l<24/\p.r<24)(hC:∀c∈kP f,c<24)(hN:mM f.ow):∀c∈bQ f,c∈b8 f:=by
 obtain⟨-,g2,g3,g4⟩:=q9 hO hC;intro c hc;unfold bQ at hc;rw[mem_append,mem_flatMap]at hc;rcases hc with hc|⟨p,hp,hc⟩
 .exact g3 c hc
 .simp only[mem_cons,not_mem_nil,or_false]at hc;rcases hc with rfl|rfl
  .exact g4 p hp
  .obtain⟨i,h1,h2⟩:=uR hN hp;have:=g2 _ (g4 p hp) i h1;rwa [h2]at this
end
