import Derived.Test.YtciihepbeacppaaGreatM23
set_option maxRecDepth 100000
set_option maxHeartbeats 0
namespace Go.Proofs.YtciihepbeacppaaGreat
open Tryz Go.RowKit List World Below
set_option linter.unusedVariables false
theorem infoCell:(prog.info? 231).map (λi=>(i.zero,i.size,i.bytes))=some (some (.agg #[.int .i64 0,.int .i64 0]),2,16):=by kernel_rfl
theorem sizeCell:(prog.info? 231).map (·.size)=some 2:=by kernel_rfl
theorem FH(l:List (Int × Int)):∀u∈dD l,u.oneCell'=true:=by
 induction l with
 |nil=>intro u hu;cases hu
 |cons c l ih =>
  intro u hu;rw[il]at hu;simp only[mem_cons]at hu;rcases hu with rfl|rfl|hu
  .rfl
  .rfl
  .exact ih u hu
theorem AA(l:List (Int × Int))(i:Nat):(dD l).drop (i*2)=dD (l.drop i):=by
 induction i generalizing l with
 |zero=>simp
 |succ i ih =>
  cases l with
  |nil=>simp[dD]
  |cons c l=>rw[il,show(i+1)*2=i*2+1+1 by omega,drop_succ_cons,drop_succ_cons,drop_succ_cons,ih]
theorem AB(l:List (Int × Int))(i:Nat):(dD l).take (i*2)=dD (l.take i):=by
 induction i generalizing l with
 |zero=>simp[dD]
 |succ i ih =>
  cases l with
  |nil=>simp[dD]
  |cons c l=>rw[il,show(i+1)*2=i*2+1+1 by omega,take_succ_cons,take_succ_cons,take_succ_cons,il,ih]
theorem Rb{l:List (Int × Int)}{i:Nat}(a n:Int)(hi:i<=l.length):
  ((splice (dD l++[.int .i64 0,.int .i64 0]) ((i+1)*2) (dD (l.drop i))).set (i*2) (.int .i64 a)).set (i*2+1) (.int .i64 n)=dD (l.take i++(a,n)::l.drop i):=by
 have hl:(dD (l.take i)).length=i*2:=by rw[bX,length_take];omega
 have h1:(dD l++[Value.int .i64 0,.int .i64 0]).drop ((i+1)*2+(dD (l.drop i)).length)=[]:=by
  apply drop_eq_nil_of_le;simp only[length_append,bX,length_drop,length_cons,length_nil];omega
 have h2:∃p q,(dD l++[Value.int .i64 0,.int .i64 0]).take ((i+1)*2)=dD (l.take i)++[p,q]:=by
  by_cases h:i<l.length
  .refine⟨.int .i64 l[i].1,.int .i64 l[i].2,?_⟩;rw[take_append_of_le_length (by rw[bX];omega),AB,take_succ_eq_append_getElem h,xX];rfl
  .have:i=l.length:=(by omega);subst this;refine⟨.int .i64 0,.int .i64 0,?_⟩;rw[take_of_length_le (by simp[bX];omega),take_length]
 obtain⟨p,q,h2⟩:=h2;unfold splice;rw[h1,append_nil,h2,append_assoc,set_append_right _ _ (by omega),set_append_right _ _ (by omega),hl,Nat.sub_self,show i*2+1-i*2=1 by omega,xX,il];rfl
theorem Ay{w:World}{X o:Nat}{T:TypeId}{xs:List Value}{v:Value}{l:List (Int × Int)}(a n:Int)(hX:Bk w X T xs)(ho:xs[o]?=some v)(h:w.ownsRow 0 231 2 v l.length (dD l))(hs:ky l)(aM:v.ownBlock≠some X)(hl:l.length<=100000)(hf:cq l a=none):
  Calls prog 96 #[.pointer (some ⟨X,o,none⟩),.int .i64 a,.int .i64 n] w λe w' =>
   e=.returned (.bool true)/\∃v',Bk w' X T (xs.set o v')/\w'.ownsRow 0 231 2 v' (l.length+1) (dD (CH l a n))/\v'.ownBlock≠some X/\am (X::v.ownBlock.toList) w (X::v'.ownBlock.toList) w':=by
 obtain⟨i0,iy,dG,du,ef⟩:=info_parts infoCell;have hc:=hX.cell o ho;have pm:=hX.lt;have HP:=ab (mW a hc h hs);have HR:=ab h;have HX:=ab hX;have HN:=ab aM;have HAd:Hid (CH l a n=l.take (cQ l a)++(a,n)::l.drop (cQ l a)):=ab rfl;have kG:=yV l a;obtain⟨i,hi⟩:∃i,i=cQ l a:=⟨_,rfl⟩;rw[<-hi]at HP HAd kG;have key:(∃g cap y,v=.slice (some ⟨g,0,none⟩) l.length cap/\i<l.length/\w.cell? ⟨g,i*2,none⟩=some (.int .i64 y)/\(y==a)=false)\/(∃ao cap,v=.slice ao l.length cap/\¬ i<l.length/\decide ((i:Int)<(l.length:Int))=false):=by
  by_cases ar:i<l.length
  .obtain⟨g,cap,hv,_,_,_⟩:=aS h (by omega);rw[hv]at h;refine zq0 ⟨g,cap,_,hv,ar,(h.cellAt (i*2) (by omega)).trans (sL ar).1,?_⟩;have:cq l a≠some i:=(by rw[hf];simp);simp only[beq_eq_false_iff_ne];intro e;subst hi;exact this (FT ar e)
  .obtain⟨ao,cap,hv,_⟩:=ah h;exact zq1 ⟨ao,cap,hv,ar,by simp;omega⟩
 have HO:=ab ho;obtain⟨bl,bP⟩:∃bl,bl=v.ownBlock:=⟨_,rfl⟩;have zF:=ab bP;clear bP;clear hi hf hX ho hs aM h;rcases key with⟨g,cap,y,rfl,ar,hy,hya⟩|⟨ao,cap,rfl,aqg,ar⟩
 all_goals
  go_enter func96,ntmps96;go_wp2_with fail
  refine(uh HP).mono ?_;rintro e w' ⟨rfl,rfl⟩;go_wp2_with (at_builtin;refine aK _ rfl (.tmp 34) (.tmp 36) 165 rfl 0 231 i0 _ 2 16 underlying165 iy dG du ef rfl (by decide) _ l.length (dD l) rfl ((uh HR).alloc _) ⟨_,0,none⟩ 1 [.int .i64 0,.int .i64 0] rfl rfl ?c1 ?c2 ?c3 ?c4 ?c5 ?_)
  case c1=>exact aJ _ _ rfl _ _
  case c2=>intro u hu;simp at hu;subst hu;rfl
  case c3=>omega
  case c4=>omega
  case c5=>simp
  intro g2 cap2 w2 aZ aI cE;have hX2:Bk w2 X T xs:=((uh HX).alloc _).of_eq (aI.block X (by simp;omega) (λe=>uh HN e.symm));obtain⟨nE,ap4⟩:l.length+1<=cap2/\cap2<=9223372036854775807:=by
   obtain⟨_,_,e,h1,h2⟩:=ah aZ;cases e;exact⟨h1,h2⟩
  have c2:=hX2.cell o (uh HO);have f2:=hX2.frz o;have hg2X:(Value.slice (some ⟨g2,0,none⟩) (l.length+1) cap2).ownBlock≠some X:=by
   simp only[Value.ownBlock,ne_eq,Option.some.injEq];rintro rfl;rcases cE with e|e
   .exact uh HN e.symm
   .first|omega|(simp at e;omega)
  have HX3:=ab (hX2.set o (Value.slice (some ⟨g2,0,none⟩) (l.length+1) cap2));have CD:=ab (a8 (p:=⟨X,o,none⟩) aZ hg2X (Value.slice (some ⟨g2,0,none⟩) (l.length+1) cap2));have dd:=ab ((((((am.refl (X::bl.toList) w').alloc _).grown aI (λk hk=>zq0 (by rw[uh zF,hk];simp))).setCell (p:=⟨X,o,none⟩) (zq0 (mem_cons_self ..)) (Value.slice (some ⟨g2,0,none⟩) (l.length+1) cap2)).foots (F'':=[X,g2]) (λk hk=>by
   simp only[mem_cons,not_mem_nil,or_false]at hk;rcases hk with rfl|rfl
   .exact zq0 (mem_cons_self ..)
   .rcases cE with e|e
    .exact zq0 (by rw[uh zF,<-e];simp)
    .exact zq1 (by first|omega|(simp at e;omega)))))
  have HG2:=ab hg2X;clear aZ aI cE hX2 hg2X;go_wp2_with fail
  obtain⟨w3,Bw⟩:∃w3,w3=w2.setCell ⟨X,o,none⟩ (Value.slice (some ⟨g2,0,none⟩) (l.length+1) cap2):=⟨_,rfl⟩;rw[<-Bw]at HX3 CD dd ⊢;clear Bw c2 f2;have c3:w3.cell? ⟨X,o,none⟩=some (Value.slice (some ⟨g2,0,none⟩) (l.length+1) cap2):=(uh HX3).cell o (by rw[getElem?_set_self (List.getElem?_eq_some_iff.1 (uh HO)).1]);have S7:IntKind.i64.wrap ((i:Int)+1)=(i:Int)+1:=by rw[IntKind.wrap_i64];omega
  have hp0:(0:Int)<=(i:Int)+1:=by omega
  have hp1:(i:Int)+1<=(l.length:Int)+1:=by omega
  have Bs:((i:Int)+1).toNat=i+1:=by omega
  have hni:¬ cap2=i:=by omega
  have Gq:(i:Int)<=(l.length:Int)+1:=by omega
  obtain⟨A,hA,HA⟩:∃A:Addr,(if cap2=i+1 then some (⟨g2,0,none⟩:Addr) else some ⟨g2,(i+1)*2,none⟩)=some A/\Hid (i<l.length->A=⟨g2,(i+1)*2,none⟩):=by
   by_cases h:cap2=i+1
   .exact⟨_,if_pos h,ab (λh'=>by omega)⟩
   .exact⟨_,if_neg h,ab (λ_=>rfl)⟩
  have D1:Hid ((dD (l.drop i)).length=Nat.min (l.length+1-i) (l.length-i)*2):=ab (by
   rw[bX,length_drop,show Nat.min (l.length+1-i) (l.length-i)=l.length-i from Nat.min_eq_right (by omega)])
  have D2:Hid (0<(dD (l.drop i)).length->some A=some ⟨g2,(i+1)*2,none⟩/\∃ad,some (⟨g2,i*2,none⟩:Addr)=some ad/\∀j v,(dD (l.drop i))[j]?=some v->w3.cell? (ad.add j)=some v):=ab (λtt=>by
   rw[bX,length_drop]at tt;refine⟨by rw[uh HA (by omega)],_,rfl,λj v hj=>?_⟩;rw[show(⟨g2,i*2,none⟩:Addr).add j=⟨g2,i*2+j,none⟩ from sD _ _ _];have eh:=(List.getElem?_eq_some_iff.1 hj).1;rw[bX,length_drop]at eh;rw[(uh CD).cellAt (i*2+j) (by omega),getElem?_append_left (by rw[bX];omega),<-hj,<-AA,getElem?_drop])
  have D3:Hid ((i+1)*2+(dD (l.drop i)).length<=(l.length+1)*2):=ab (by rw[bX,length_drop];omega);have ahP:Hid (w3.drew.ownsRow 0 231 2 (.slice (some ⟨g2,0,none⟩) (l.length+1) cap2) (l.length+1) (dD l++[.int .i64 0,.int .i64 0])):=ab (uh CD);go_region_law (refine ul rfl (.tmp 46) (.tmp 52) 165 165 rfl 231 2 (by decide) underlying165 sizeCell (some A) (some ⟨g2,i*2,none⟩) (l.length-i) (cap2-(i+1)) (l.length+1-i) (cap2-i) (by rfl) (by rfl) 0 231 g2 (l.length+1) cap2 _ (uh ahP) ((i+1)*2) (dD (l.drop i)) (uh D1) (uh D2) (uh D3) (FH _) ?_;intro w4 fe vG)
  all_goals
   have hgX:X≠g2:=λe=>uh HG2 (by rw[e];rfl);have CO:Bk w4 X T (xs.set o (Value.slice (some ⟨g2,0,none⟩) (l.length+1) cap2)):=(uh HX3).of_eq (vG.block X (uh HX3).lt (by simpa using hgX));have c4:w4.cell? ⟨X,o,none⟩=some (Value.slice (some ⟨g2,0,none⟩) (l.length+1) cap2):=CO.cell o (by rw[getElem?_set_self (List.getElem?_eq_some_iff.1 (uh HO)).1]);have hl4:=fe.1;obtain⟨u1,y1⟩:∃u,w4.cell? ⟨g2,i*2,none⟩=some u:=by
    rw[fe.cellAt (i*2) (by omega)];exact⟨_,getElem?_eq_getElem (by omega)⟩
   obtain⟨u2,y2⟩:∃u,w4.cell? ⟨g2,i*2+1,none⟩=some u:=by
    rw[fe.cellAt (i*2+1) (by omega)];exact⟨_,getElem?_eq_getElem (by omega)⟩
   have z1:=fe.frozenAt (i*2);have z2:=fe.frozenAt (i*2+1);have J6:=ab ((fe.stored (i*2) (.int .i64 a)).1.stored (i*2+1) (.int .i64 n)).1;rw[Rb a n kG,<-uh HAd]at J6;have HX5:=ab ((CO.setO (p:=⟨g2,i*2,none⟩) (λe=>hgX e.symm) (.int .i64 a)).setO (p:=⟨g2,i*2+1,none⟩) (λe=>hgX e.symm) (.int .i64 n));have gN:=ab ((uh dd).drew.trans ((((vG.wide (G:=[X,g2]) (by simp)).setCell (p:=⟨g2,i*2,none⟩) (zq0 (by simp)) (.int .i64 a)).setCell (p:=⟨g2,i*2+1,none⟩) (zq0 (by simp)) (.int .i64 n))));have i1:(i:Int)<(l.length:Int)+1:=(by omega);clear fe vG CO hl4 c3 hA hp0 hp1 Bs Gq S7;go_wp2_with fail
   go_ret;exact⟨rfl,_,uh HX5,uh J6,uh HG2,by rw[<-uh zF];exact uh gN⟩
theorem Ra{w:World}{X o:Nat}{v:Value}{l:List (Int × Int)}(a n:Int){i:Nat}(hc:w.cell? ⟨X,o,none⟩=some v)(h:w.ownsRow 0 231 2 v l.length (dD l))(hs:ky l)(hf:cq l a=some i):
  Calls prog 96 #[.pointer (some ⟨X,o,none⟩),.int .i64 a,.int .i64 n] w λe w'=>e=.returned (.bool false)/\w'=w:=by
 have HP:=ab (mW a hc h hs);obtain⟨hi,-⟩:=ey hf;have eT:cQ l a=i/\∃h:i<l.length,l[i].1=a:=by
  have kF:=hf;unfold cq at hf;split at hf
  .split at hf
   .injection hf with hf;subst hf;exact⟨rfl,‹_›,‹_›⟩
   .cases hf
  .cases hf
 rw[eT.1]at HP;obtain⟨_,he⟩:=eT.2;obtain⟨g,cap,rfl,fs,hm,gE⟩:=aS h (by omega);have x1:=(h.cellAt (i*2) (by omega)).trans (sL hi).1;rw[he]at x1;clear h hs hf eT he;go_enter func96,ntmps96;go_wp2_with (go_at_call 144;refine(uh HP).mono ?_;rintro e w' ⟨rfl,rfl⟩)
 go_ret;exact⟨rfl,rfl⟩
def Kq(l:List (Int × Int))(i:Nat):List (Int × Int):=l.eraseIdx i
theorem He{l:List (Int × Int)}{i:Nat}(h:i<l.length):(Kq l i).length=l.length-1:=by simp[Kq,length_eraseIdx,h]
theorem Xu{l:List (Int × Int)}{i:Nat}(hi:i<l.length):(splice (dD l) (i*2) (dD (l.drop (i+1)))).take ((l.length-1)*2)=dD (Kq l i):=by
 have h1:(dD (l.take i)).length=i*2:=by rw[bX,length_take];omega
 have h2:(dD (l.drop (i+1))).length=(l.length-1)*2-i*2:=by rw[bX,length_drop];omega
 unfold splice Kq;rw[AB,<-append_assoc,take_append_of_le_length (by rw[length_append,h1,h2];omega),take_of_length_le (by rw[length_append,h1,h2];omega),eraseIdx_eq_take_drop_succ,xX]
theorem AH{w:World}{X o:Nat}{T:TypeId}{xs:List Value}{v:Value}{l:List (Int × Int)}(a:Int)(hX:Bk w X T xs)(ho:xs[o]?=some v)(h:w.ownsRow 0 231 2 v l.length (dD l))(hs:ky l)(aM:v.ownBlock≠some X):
  Calls prog 111 #[.pointer (some ⟨X,o,none⟩),.int .i64 a] w λe w' =>
   (cq l a=none/\e=.returned (.bool false)/\w'=w) \/
   (∃i,cq l a=some i/\e=.returned (.bool true)/\∃v',Bk w' X T (xs.set o v')/\w'.ownsRow 0 231 2 v' (l.length-1) (dD (Kq l i))/\v'.ownBlock=v.ownBlock/\am (X::v.ownBlock.toList) w (X::v.ownBlock.toList) w'):=by
 have hc:=hX.cell o ho;have HF:=ab (js a hc h hs);have HR:=ab h;have HX:=ab hX;have HO:=ab ho;cases hf:cq l a with
 |none =>
  have e:nR l a=-1:=by unfold nR;rw[hf]
  rw[e]at HF;clear h hs hf e hX ho aM;go_enter func111,ntmps111;go_wp2_with (go_at_call 149;refine(uh HF).mono ?_;rintro e w' ⟨rfl,rfl⟩)
  go_ret;exact zq0 ⟨trivial,rfl,rfl⟩
 |some i =>
  have e:nR l a=(i:Int):=by unfold nR;rw[hf]
  rw[e]at HF;obtain⟨hi,-⟩:=ey hf;obtain⟨g,cap,rfl,fs,hm,gE⟩:=aS h (by omega);have hgX:X≠g:=λe=>aM (by rw[e];rfl);clear h hs hf e hX ho aM;go_enter func111,ntmps111;go_wp2_with (go_at_call 149;refine(uh HF).mono ?_;rintro e w' ⟨rfl,rfl⟩)
  have S7:IntKind.i64.wrap ((i:Int)+1)=(i:Int)+1:=by rw[IntKind.wrap_i64];omega
  have hp0:(0:Int)<=(i:Int)+1:=by omega
  have hp1:(i:Int)+1<=(l.length:Int):=by omega
  have Bs:((i:Int)+1).toNat=i+1:=by omega
  have Gq:(i:Int)<=(l.length:Int):=by omega
  have hni:¬ cap=i:=by omega
  obtain⟨A,hA,HA⟩:∃A:Addr,(if cap=i+1 then some (⟨g,0,none⟩:Addr) else some ⟨g,(i+1)*2,none⟩)=some A/\Hid (i+1<l.length->A=⟨g,(i+1)*2,none⟩):=by
   by_cases h:cap=i+1
   .exact⟨_,if_pos h,ab (λh'=>by omega)⟩
   .exact⟨_,if_neg h,ab (λ_=>rfl)⟩
  have D1:Hid ((dD (l.drop (i+1))).length=Nat.min (l.length-(i+1)) (l.length-i)*2):=ab (by
   rw[bX,length_drop,show Nat.min (l.length-(i+1)) (l.length-i)=l.length-(i+1) from Nat.min_eq_left (by omega)])
  have D2:Hid (0<(dD (l.drop (i+1))).length->some (⟨g,i*2,none⟩:Addr)=some ⟨g,i*2,none⟩/\∃ad,some A=some ad/\∀j v,(dD (l.drop (i+1)))[j]?=some v->w'.cell? (ad.add j)=some v):=ab (λtt=>by
   rw[bX,length_drop]at tt;refine⟨rfl,_,rfl,λj v hj=>?_⟩;rw[uh HA (by omega),show(⟨g,(i+1)*2,none⟩:Addr).add j=⟨g,(i+1)*2+j,none⟩ from sD _ _ _];have eh:=(List.getElem?_eq_some_iff.1 hj).1;rw[bX,length_drop]at eh;rw[(uh HR).cellAt ((i+1)*2+j) (by omega),<-hj,<-AA,getElem?_drop])
  have D3:Hid (i*2+(dD (l.drop (i+1))).length<=l.length*2):=ab (by rw[bX,length_drop];omega);have HRd:Hid (w'.drew.ownsRow 0 231 2 (.slice (some ⟨g,0,none⟩) l.length cap) l.length (dD l)):=ab (uh HR);go_region_law (refine ul rfl (.tmp 16) (.tmp 23) 165 165 rfl 231 2 (by decide) underlying165 sizeCell (some ⟨g,i*2,none⟩) (some A) (l.length-i) (cap-i) (l.length-(i+1)) (cap-(i+1)) (by rfl) (by rfl) 0 231 g l.length cap _ (uh HRd) (i*2) (dD (l.drop (i+1))) (uh D1) (uh D2) (uh D3) (FH _) ?_;intro w4 fe vG)
  all_goals
   have CO:Bk w4 X T xs:=(uh HX).of_eq (vG.block X (uh HX).lt (by simpa using hgX));have c4:=CO.cell o (uh HO);have f4:=CO.frz o;have HX5:=ab (CO.set o (.slice (some ⟨g,0,none⟩) (l.length-1) cap));have PU:=ab fe;have dW:=ab vG;have hq0:IntKind.i64.wrap ((l.length:Int)-1)=(l.length:Int)-1:=(by rw[IntKind.wrap_i64];omega);have SV:(0:Int)<=(l.length:Int)-1:=(by omega);have hq2:(l.length:Int)-1<=(cap:Int):=(by omega);have hq3:((l.length:Int)-1).toNat=l.length-1:=(by omega);clear fe vG CO hA hp0 hp1 Bs Gq S7;go_wp2_with fail
   go_region
   all_goals
    go_wp2_with fail
    go_ret;refine zq1 ⟨i,rfl,rfl,.slice (some ⟨g,0,none⟩) (l.length-1) cap,uh HX5,?_,rfl,?_⟩
    .rw[<-Xu hi];refine a8 (p:=⟨X,o,none⟩) ?_ (by simpa[Value.ownBlock] using λe=>hgX e.symm) _;have h4:=uh PU;have hl4:=h4.1;rcases h4.2 with⟨h',_⟩|⟨g',cap',cur,h',hb,hg,wV,iw,ix,tD⟩
     .simp at h'
     .simp only[Value.slice.injEq,Option.some.injEq,Addr.mk.injEq,and_true,true_and]at h';obtain⟨rfl,rfl⟩:=h';refine⟨by rw[length_take];omega,.inr ⟨g,cap,cur,rfl,hb,hg,by omega,iw,ix,?_⟩⟩;rw[<-tD,take_take,Nat.min_eq_left (by omega)]
    .exact((am.refl _ _).drew.trans ((uh dW).wide (by simp[Value.ownBlock]))).drew.setCell (p:=⟨X,o,none⟩) (zq0 (mem_cons_self ..)) _
def vV(lk:Int->Option Int):Nat->List Int->Int->List Int
 |0,V,_=>V
 |m+1,V,a=>match lk a with
  |none=>V
  |some n=>if a∈V then V else vV lk m (a::V) n
def mw(lk:Int->Option Int)(n:Nat)(V:List Int)(st:List Int):List Int:=st.foldl (vV lk (n+1)) V
def iM(l:List (Int × Int))(a:Int):Option Int:=(cq l a).map (λi=>(l.getD i (0,0)).2)
def Af(l:List (Int × Int))(V:List Int):List Bool:=l.map (λc=>decide (c.1∈V))
structure Am(l:List (Int × Int))(V:List Int):Prop where
 nd:V.Nodup
 sub:∀a∈V,a∈l.map (·.1)
theorem Am.le{l:List (Int × Int)}{V:List Int}(h:Am l V):V.length<=l.length:=by
 have:=h.nd.length_le_of_subset h.sub;simpa using this
theorem Am.nil(l:List (Int × Int)):Am l []:=⟨nodup_nil,λ_ h=>by cases h⟩
theorem Am.cons{l:List (Int × Int)}{V:List Int}(h:Am l V){a:Int}(ha:a ∉ V)(hm:a∈l.map (·.1)):Am l (a::V) :=
 ⟨nodup_cons.2 ⟨ha,h.nd⟩,λb hb=>by rcases mem_cons.1 hb with rfl|hb;exact hm;exact h.sub b hb⟩
theorem T7{l:List (Int × Int)}(hs:ky l){V:List Int}{i:Nat}(hi:i<l.length):(Af l V).set i true=Af l (l[i].1::V):=by
 apply ext_getElem
 .simp[Af]
 .intro j h1 h2;simp only[Af,length_set,length_map]at h1 h2;rw[getElem_set];by_cases e:i=j
  .subst e;simp[Af]
  .have aM:l[j].1≠l[i].1:=by
    rcases Nat.lt_or_gt_of_ne e with h|h
    .have:=pairwise_iff_getElem.1 hs i j hi h1 h;omega
    .have:=pairwise_iff_getElem.1 hs j i h1 hi h;omega
   simp[Af,e,aM]
theorem rA{l:List (Int × Int)}{a:Int}{i:Nat}(h:cq l a=some i):a∈l.map (·.1):=by
 obtain⟨hi,he⟩:=ey h;exact mem_map.2 ⟨l[i],getElem_mem hi,he⟩
theorem infoBoolQ:(prog.info? 4).map (λi=>(i.zero,i.size,i.bytes))=some (some (.bool false),1,1):=by kernel_rfl
theorem Hj(l:List (Int × Int))(V:List Int):(Af l V).length=l.length:=by simp[Af]
theorem T6(l:List (Int × Int)):(Af l []).map Value.bool=replicate l.length (.bool false):=by
 apply ext_getElem
 .simp[Af]
 .intro j h1 h2;simp[Af]
theorem Ct{lk:Int->Option Int}{m:Nat}{V:List Int}{a:Int}(h:lk a=none):vV lk m V a=V:=by
 cases m with
 |zero=>rfl
 |succ m=>unfold vV;rw[h]
theorem PH{lk:Int->Option Int}{m:Nat}{V:List Int}{a n:Int}(h:lk a=some n)(hV:a∈V):vV lk m V a=V:=by
 cases m with
 |zero=>rfl
 |succ m=>unfold vV;rw[h];simp only;rw[if_pos hV]
theorem PG{lk:Int->Option Int}{m:Nat}{V:List Int}{a n:Int}(h:lk a=some n)(hV:a ∉ V):vV lk (m+1) V a=vV lk m (a::V) n:=by
 rw[vV,h];simp only;rw[if_neg hV]
theorem Am.lt{l:List (Int × Int)}{V:List Int}(h:Am l V){a:Int}(ha:a ∉ V)(hm:a∈l.map (·.1)):V.length<l.length:=by
 have:=(h.cons ha hm).le;simp only[length_cons]at this;omega
theorem Du{w:World}{X o:Nat}{v fv:Value}{l:List (Int × Int)}{st:List Int}(hc:w.cell? ⟨X,o,none⟩=some v)(h:w.ownsRow 0 231 2 v l.length (dD l))(hs:ky l)(hl:l.length<=100000)(aE:w.ownsRow 0 3 1 fv st.length (st.map (Value.int .i64)))(Bv:st.length<=4):
  Calls prog 148 #[.pointer (some ⟨X,o,none⟩),fv] w λe w'=>e=.returned (.bool ((mw (iM l) l.length [] st).length==l.length))/\Below w.heap.size w w':=by
 obtain⟨i0,hi,dG,du,ef⟩:=info_parts (infoBoolQ);have HR:=ab h;have HS:=ab hs;have bA:=ab aE;obtain⟨ao,cap,rfl,hm,fs,aq⟩:=gW h;obtain⟨fo,fcap,rfl,hfn,hfm⟩:=ah aE;have HC:=ab aq;have UT:Hid (∀(a:Int) (w1:World),Below w.heap.size w w1->Calls prog 149 #[.pointer (some ⟨X,o,none⟩),.int .i64 a] w1 λe w'=>e=.returned (.int .i64 (nR l a))/\w'=w1):=ab (λa w1 hb=>js a ((hb.cell (block_lt_of_cell? w _ hc)).trans hc) (b8 h hb) hs);have pm:=block_lt_of_cell? w _ hc;clear aq h hs aE;go_enter func148,ntmps148;go_wp2_with (at_make;refine wpList_make_full _ rfl _ _ 200 rfl w.heap.size 4 i0 (.bool false) 1 underlying200 hi dG du .i64 .i64 _ _ l.length rfl rfl rfl rfl ?b2 ?b3 ?b4 ?_)
 case b2=>omega
 case b3=>unfold maxLen;omega
 intro w1 cF bH;have aO:Below w.heap.size w w1:=(Below.refl _ _).grown bH (zq4 _) (λk h=>by cases h);have k7:w1.ownsRow w.heap.size 4 1 (.slice (some ⟨w.heap.size,0,none⟩) l.length l.length) l.length ((Af l []).map Value.bool):=by
  rw[T6];simpa[Value.cells,toList_madeCells_one] using cF
 have cY:=ab aO;have zK:=ab k7;clear cF bH aO k7;go_wp2_with fail
 obtain⟨N,hN⟩:∃N,N=w.heap.size:=⟨_,rfl⟩;rw[<-hN]at cY zK pm ⊢;have WR:=ab hN;clear hN;go_loopg [6,7] st.length (λgn c k wr=>∃(j:Nat) (V:List Int),j+gn=st.length/\k=.int .i64 j/\c=.int .i64 (V.length:Nat)/\Hid (mw (iM l) l.length V (st.drop j)=mw (iM l) l.length [] st)/\Hid (Am l V)/\Hid (wr.ownsRow N 4 1 (.slice (some ⟨N,0,none⟩) l.length l.length) l.length ((Af l V).map Value.bool))/\Hid (Below N w wr))
 case atStart=>exact⟨0,[],by omega,rfl,rfl,ab rfl,ab (Am.nil l),zK,cY⟩
 case round =>
  obtain⟨j,V,hj,rfl,rfl,hE,hM,aF,kq⟩:=hrel;have Yl:=(uh hM).le;by_cases ar:j<st.length
  .have hd:decide ((j:Int)<(st.length:Int))=true:=(by simp;omega);obtain⟨fg,fcap',Qc,-,-,ajr⟩:=aS (uh bA) (by omega);cases Qc
   have y1:=(uh bA).cellAt j (by omega);rw[getElem?_map,getElem?_eq_getElem ar]at y1;have x1:=((uh kq).cell (p:=⟨fg,j,none⟩) (by rw[uh WR];exact ajr)).trans y1;simp only[Option.map_some]at x1;have HEs:Hid (mw (iM l) l.length V (st.drop j)=mw (iM l) l.length (vV (iM l) (l.length+1) V st[j]) (st.drop (j+1))):=ab (by
    rw[drop_eq_getElem_cons ar];rfl)
   generalize st[j]=a at *;have Cz:=ab (uh UT a wr (by rw[<-uh WR];exact uh kq));clear y1;go_wp2_with fail
   refine(uh Cz).mono ?_;rintro e w2 ⟨rfl,rfl⟩;go_wp2_with fail
   go_loopw [6,8] (λc i wr=>∃(V':List Int) (b:Int) (m:Nat),l.length<m+V'.length/\c=.int .i64 (V'.length:Nat)/\i=.int .i64 (nR l b)/\Hid (vV (iM l) m V' b=vV (iM l) (l.length+1) V a)/\Hid (Am l V')/\Hid (wr.ownsRow N 4 1 (.slice (some ⟨N,0,none⟩) l.length l.length) l.length ((Af l V').map Value.bool))/\Hid (Below N w wr)) (λc _ _=>l.length-(intOf c).toNat)
   case atStart=>exact⟨V,a,l.length+1,by omega,rfl,rfl,ab rfl,hM,aF,kq⟩
   case round =>
    clear hM aF kq Yl x1 Cz;obtain⟨V',b,m,hm',rfl,rfl,hW,hM,aF,kq⟩:=hrel;have Yl:=(uh hM).le;cases hf:cq l b with
    |none =>
     have ei:nR l b=-1:=(by unfold nR;rw[hf]);have d9:vV (iM l) (l.length+1) V a=V':=by
      rw[<-uh hW];exact Ct (by unfold iM;rw[hf];rfl)
     rw[ei];have J8:=ab d9;clear hf ei d9;go_wp2_with fail
     go_roundg (gk-1)
     case rel=>exact⟨j+1,V',by omega,by go_num,rfl,ab (by rw[<-uh J8,<-uh HEs];exact uh hE),hM,aF,kq⟩
     case measure=>omega
    |some i =>
     have ei:nR l b=(i:Int):=(by unfold nR;rw[hf]);obtain⟨kG,VL⟩:=ey hf;have Qh:iM l b=some l[i].2:=(by unfold iM;rw[hf];simp[kG]);have ix:=(uh aF).cellAt i (by omega);rw[getElem?_map,getElem?_eq_getElem (by rw[Hj];exact kG)]at ix;have VZ:(Af l V')[i]'(by rw[Hj];exact kG)=decide (b∈V'):=(by simp[Af,VL]);simp only[Option.map_some,VZ]at ix;have YG:=(uh aF).frozenAt i;rw[ei];by_cases kz:b∈V'
     .have d9:vV (iM l) (l.length+1) V a=V':=(by rw[<-uh hW];exact PH Qh kz);rw[decide_eq_true kz]at ix;have J8:=ab d9;clear hf ei d9 VZ kz Qh;go_wp2_with fail
      go_roundg (gk-1)
      case rel=>exact⟨j+1,V',by omega,by go_num,rfl,ab (by rw[<-uh J8,<-uh HEs];exact uh hE),hM,aF,kq⟩
      case measure=>omega
     .have bf:=(uh hM).lt kz (rA hf);obtain⟨m,rfl⟩:∃m',m=m'+1:=⟨m-1,by omega⟩;have J8:Hid (vV (iM l) m (b::V') l[i].2=vV (iM l) (l.length+1) V a):=ab (by rw[<-uh hW,PG Qh kz]);have Ah:=ab ((uh hM).cons kz (rA hf));rw[decide_eq_false kz]at ix;have fH:=((uh aF).stored i (.bool true)).1;have aeH:((Af l V').map Value.bool).set i (.bool true)=(Af l (b::V')).map Value.bool:=(by rw[<-VL,<-T7 (uh HS) kG,map_set]);rw[aeH]at fH;have vZ:=ab fH;have ax:=(uh kq).setCell (p:=⟨N,i,none⟩) (zq4 _) (.bool true);obtain⟨g,jm,gE,aq⟩:=uh HC (by intro h;rw[h]at kG;simp at kG);subst jm;have y2:=(aq i kG).2;have hgN:g<N:=(by rw[uh WR];exact gE);have x0:=(ax.cell (p:=⟨X,o,none⟩) pm).trans hc;have x2:=(ax.cell (p:=⟨g,i*2+1,none⟩) hgN).trans y2;generalize l[i].2=nx at *;have se:=ab (uh UT nx (wr.setCell ⟨N,i,none⟩ (.bool true)) (by rw[<-uh WR];exact ax));have bu:=ab ax;clear hf ei VZ kz Qh fH aeH ax aq y2 VL aF kq hM;go_wp2_with fail
      refine(uh se).mono ?_;rintro e w3 ⟨rfl,rfl⟩;go_wp2_with fail
      go_roundw
      case rel=>exact⟨b::V',nx,m,by simp only[length_cons];omega,by simp only[length_cons];go_num,rfl,J8,Ah,vZ,bu⟩
      case measure=>simp[intOf];omega
  .have hd:decide ((j:Int)<(st.length:Int))=false:=(by simp;omega);have eh:j=st.length:=(by omega);have Bg:mw (iM l) l.length [] st=V:=(by rw[<-uh hE,eh,drop_length];rfl);have si:=ab Bg;have x0:=((uh kq).cell (p:=⟨X,o,none⟩) pm).trans hc;clear Bg eh;go_wp2_with fail
   go_ret;exact⟨aw (by rw[uh si,Bool.eq_iff_iff];simp only[beq_iff_eq];omega),by rw[<-uh WR];exact uh kq⟩
theorem cJ(w:World)(n:Nat):Below w.heap.size w (w.drewN n):=⟨rfl,rfl,rfl,zq4 _,λ_ _=>rfl⟩
structure MS where
 nd:Nat
 wh:Nat
 st:List Int
 cs:List (Int × Int)
def kA(A:Nat):Value:=.pointer (some ⟨A,0,none⟩)
def NF(l:List Int):List Value:=l.map (Value.int .i64)
theorem yO{l:List Int}{k:Nat}(h:k<l.length):(NF l)[k]?=some (.int .i64 (l.getD k 0)):=by simp[NF,h]
structure Cp(w:World)(Q:Nat)(ws:List ByteArray)(s:PS)(al:List bt)(vv pv nv:Value):Prop where
 bk:Bk w Q 105 [.string ⟨(jn ws).toArray⟩,vv,pv,nv]
 vr:w.ownsRow 0 5 1 vv s.vars.length (bc s.vars)
 pr:w.ownsRow 0 239 5 pv al.length (bh al)
 nr:w.ownsRow 0 186 6 nv s.nodes.length (a7 s.nodes)
def qK(Q:Nat)(vv pv nv:Value):List Nat:=Q::(vv.ownBlock.toList++(pv.ownBlock.toList++nv.ownBlock.toList))
section
variable {w w':World} {Q:Nat} {ws:List ByteArray} {s:PS} {al:List bt} {vv pv nv:Value}
theorem Cp.of_eq(h:Cp w Q ws s al vv pv nv)(he:∀k∈qK Q vv pv nv,w'.heap[k]?=w.heap[k]?):Cp w' Q ws s al vv pv nv :=
 ⟨h.bk.of_eq (he Q (by simp[qK])),ae h.vr (λk hk=>he k (by simp[qK,hk])),ae h.pr (λk hk=>he k (by simp[qK,hk])),ae h.nr (λk hk=>he k (by simp[qK,hk]))⟩
theorem Cp.lt(h:Cp w Q ws s al vv pv nv):∀k∈qK Q vv pv nv,k<w.heap.size:=by
 intro k hk;simp only[qK,mem_cons,mem_append,Option.mem_toList]at hk;rcases hk with rfl|hk|hk|hk
 .exact h.bk.lt
 .exact(h.vr.lt k hk).2
 .exact(h.pr.lt k hk).2
 .exact(h.nr.lt k hk).2
theorem Cp.below(h:Cp w Q ws s al vv pv nv)(hb:Below w.heap.size w w'):Cp w' Q ws s al vv pv nv:=h.of_eq (λk hk=>hb.block k (h.lt k hk))
theorem Cp.stp{F F':List Nat}(h:Cp w Q ws s al vv pv nv)(hs:am F w F' w')(hd:∀k∈qK Q vv pv nv,k ∉ F):Cp w' Q ws s al vv pv nv:=h.of_eq (λk hk=>hs.block k (h.lt k hk) (hd k hk))
end
theorem Xd.cp{B:Nat}{w:World}{Q:Nat}{ws:List ByteArray}{s:PS}{al:List bt}(h:Xd B w Q ws s al):∃vv pv nv,Cp w Q ws s al vv pv nv/\∀k∈qK Q vv pv nv,B<=k:=by
 obtain⟨vv,pv,nv,h0,hB,h1,h2,h3⟩:=h;refine⟨vv,pv,nv,⟨h0,bW h1 (zq5 _),bW h2 (zq5 _),bW h3 (zq5 _)⟩,λk hk=>?_⟩;simp only[qK,mem_cons,mem_append,Option.mem_toList]at hk;rcases hk with rfl|hk|hk|hk
 .exact hB
 .exact(h1.lt k hk).1
 .exact(h2.lt k hk).1
 .exact(h3.lt k hk).1
def cZ(R:Nat)(sv cv:Value):List Nat:=R::(sv.ownBlock.toList++cv.ownBlock.toList)
structure Mc(w:World)(R Q:Nat)(ws:List ByteArray)(s:PS)(al:List bt)(m:MS)(vv pv nv sv cv:Value):Prop where
 bk:Bk w R 169 [kA Q,.int .i64 (m.nd:Int),.int .i64 (m.wh:Int),sv,cv]
 st:w.ownsRow 0 3 1 sv m.st.length (NF m.st)
 cs:w.ownsRow 0 231 2 cv m.cs.length (dD m.cs)
 srt:ky m.cs
 nd:(cZ R sv cv).Nodup
 cp:Cp w Q ws s al vv pv nv
 dc:∀k∈qK Q vv pv nv,k ∉ cZ R sv cv
 ls:m.st.length<=4
section
variable {w w':World} {R Q:Nat} {ws:List ByteArray} {s:PS} {al:List bt} {m:MS} {vv pv nv sv cv:Value}
theorem Mc.nds(h:Mc w R Q ws s al m vv pv nv sv cv):sv.ownBlock≠some R/\cv.ownBlock≠some R/\∀k,sv.ownBlock=some k->cv.ownBlock≠some k:=by
 have:=h.nd;unfold cZ at this;rw[nodup_cons,nodup_append]at this;obtain⟨h1,-,-,h4⟩:=this;simp only[mem_append,Option.mem_toList,not_or]at h1;exact⟨h1.1,h1.2,λk hk hc=>h4 k (by simpa using hk) k (by simpa using hc) rfl⟩
theorem Mc.lt(h:Mc w R Q ws s al m vv pv nv sv cv):∀k∈cZ R sv cv,k<w.heap.size:=by
 intro k hk;simp only[cZ,mem_cons,mem_append,Option.mem_toList]at hk;rcases hk with rfl|hk|hk
 .exact h.bk.lt
 .exact(h.st.lt k hk).2
 .exact(h.cs.lt k hk).2
theorem Mc.of_eq(h:Mc w R Q ws s al m vv pv nv sv cv)(he:∀k,k∈cZ R sv cv\/k∈qK Q vv pv nv->w'.heap[k]?=w.heap[k]?):Mc w' R Q ws s al m vv pv nv sv cv :=
 ⟨h.bk.of_eq (he R (zq0 (by simp[cZ]))),ae h.st (λk hk=>he k (zq0 (by simp[cZ,hk]))),ae h.cs (λk hk=>he k (zq0 (by simp[cZ,hk]))),h.srt,h.nd,h.cp.of_eq (λk hk=>he k (zq1 hk)),h.dc,h.ls⟩
theorem Mc.below(h:Mc w R Q ws s al m vv pv nv sv cv)(hb:Below w.heap.size w w'):Mc w' R Q ws s al m vv pv nv sv cv:=h.of_eq (λk hk=>hb.block k (by rcases hk with hk|hk;exact h.lt k hk;exact h.cp.lt k hk))
theorem Mc.c0(h:Mc w R Q ws s al m vv pv nv sv cv):w.cell? ⟨R,0,none⟩=some (.pointer (some ⟨Q,0,none⟩)):=h.bk.cell 0 rfl
theorem Mc.c1(h:Mc w R Q ws s al m vv pv nv sv cv):w.cell? ⟨R,1,none⟩=some (.int .i64 (m.nd:Int)):=h.bk.cell 1 rfl
theorem Mc.c2(h:Mc w R Q ws s al m vv pv nv sv cv):w.cell? ⟨R,2,none⟩=some (.int .i64 (m.wh:Int)):=h.bk.cell 2 rfl
theorem Mc.c3(h:Mc w R Q ws s al m vv pv nv sv cv):w.cell? ⟨R,3,none⟩=some sv:=h.bk.cell 3 rfl
theorem Mc.c4(h:Mc w R Q ws s al m vv pv nv sv cv):w.cell? ⟨R,4,none⟩=some cv:=h.bk.cell 4 rfl
theorem Mc.setR(h:Mc w R Q ws s al m vv pv nv sv cv)(j:Nat)(u:Value)(m':MS)(he:[kA Q,.int .i64 (m.nd:Int),.int .i64 (m.wh:Int),sv,cv].set j u=[kA Q,.int .i64 (m'.nd:Int),.int .i64 (m'.wh:Int),sv,cv])(h1:m'.st=m.st)(h2:m'.cs=m.cs):
  Mc (w.setCell ⟨R,j,none⟩ u) R Q ws s al m' vv pv nv sv cv:=by
 have hb:=h.bk.set j u;rw[he]at hb;obtain⟨n1,n2,n3⟩:=h.nds;have ho:∀k,k≠R->(w.setCell ⟨R,j,none⟩ u).heap[k]?=w.heap[k]?:=λk hk=>heap_setCell _ _ _ _ (λe=>hk e);refine⟨hb,?_,?_,by rw[h2];exact h.srt,h.nd,?_,h.dc,by rw[h1];exact h.ls⟩
 .rw[h1];exact ae h.st (λk hk=>ho k (by rintro rfl;exact n1 hk))
 .rw[h2];exact ae h.cs (λk hk=>ho k (by rintro rfl;exact n2 hk))
 .exact h.cp.of_eq (λk hk=>ho k (by rintro rfl;exact h.dc _ hk (by simp[cZ])))
theorem Mc.setNode(h:Mc w R Q ws s al m vv pv nv sv cv)(n:Nat):Mc (w.setCell ⟨R,1,none⟩ (.int .i64 (n:Int))) R Q ws s al { m with nd:=n } vv pv nv sv cv:=h.setR 1 _ _ rfl rfl rfl
theorem Mc.setWhat(h:Mc w R Q ws s al m vv pv nv sv cv)(n:Nat):Mc (w.setCell ⟨R,2,none⟩ (.int .i64 (n:Int))) R Q ws s al { m with wh:=n } vv pv nv sv cv:=h.setR 2 _ _ rfl rfl rfl
theorem Mc.setVar(h:Mc w R Q ws s al m vv pv nv sv cv){g n cap:Nat}(hs:sv=.slice (some ⟨g,0,none⟩) n cap)(v:Nat)(x:Int):Mc (w.setCell ⟨g,v,none⟩ (.int .i64 x)) R Q ws s al { m with st:=m.st.set v x } vv pv nv sv cv:=by
 obtain⟨n1,n2,n3⟩:=h.nds;have hg:sv.ownBlock=some g:=by rw[hs];rfl
 have ho:∀k,k≠g->(w.setCell ⟨g,v,none⟩ (.int .i64 x)).heap[k]?=w.heap[k]?:=λk hk=>heap_setCell _ _ _ _ (λe=>hk e);have hr:(w.setCell ⟨g,v,none⟩ (.int .i64 x)).ownsRow 0 3 1 sv (m.st.set v x).length (NF (m.st.set v x)):=by
  have h1:=h.st;have hn:n=m.st.length:=by
   obtain⟨_,_,e,_⟩:=ah h1;rw[hs]at e;cases e;rfl
  rw[hs,hn]at h1 ⊢;have h2:=(h1.stored v (.int .i64 x)).1;rw[length_set];rw[show(NF m.st).set v (.int .i64 x)=NF (m.st.set v x) by simp[NF,map_set]]at h2;exact h2
 exact⟨h.bk.of_eq (ho R (by rintro rfl;exact n1 hg)),hr,ae h.cs (λk hk=>ho k (by rintro rfl;exact n3 _ hg hk)),h.srt,h.nd,h.cp.of_eq (λk hk=>ho k (by rintro rfl;exact h.dc _ hk (by simp[cZ,hg]))),h.dc,by simpa using h.ls⟩
theorem Mc.cells (h:Mc w R Q ws s al m vv pv nv sv cv) {cv':Value} {cs':List (Int × Int)} {n:Nat} (hb:Bk w' R 169 ([kA Q,.int .i64 (m.nd:Int),.int .i64 (m.wh:Int),sv,cv].set 4 cv')) (hr:w'.ownsRow 0 231 2 cv' n (dD cs')) (hn:n=cs'.length) (hs:ky cs') (aM:cv'.ownBlock≠some R)
  (aE:am (R::cv.ownBlock.toList) w (R::cv'.ownBlock.toList) w'):Mc w' R Q ws s al { m with cs:=cs' } vv pv nv sv cv'/\am (cZ R sv cv) w (cZ R sv cv') w':=by
 subst hn;obtain⟨n1,n2,n3⟩:=h.nds;have hf:∀k,cv'.ownBlock=some k->cv.ownBlock=some k\/w.heap.size<=k:=by
  intro k hk;rcases aE.foot k (by simp[hk]) with h1|h1
  .rcases mem_cons.1 h1 with rfl|h1
   .exact absurd hk aM
   .exact zq0 (by simpa using h1)
  .exact zq1 h1
 have hsk:∀k,sv.ownBlock=some k->k ∉ R::cv.ownBlock.toList:=by
  intro k hk hm;rcases mem_cons.1 hm with rfl|hm
  .exact n1 hk
  .exact n3 k hk (by simpa using hm)
 have Kh:∀k∈qK Q vv pv nv,k ∉ R::cv.ownBlock.toList:=by
  intro k hk hm;refine h.dc k hk ?_;rcases mem_cons.1 hm with rfl|hm
  .simp[cZ]
  .simp only[cZ,mem_cons,mem_append];exact zq1 (zq1 hm)
 refine⟨⟨hb,ae h.st (λk hk=>aE.block k (h.st.lt k hk).2 (hsk k hk)),hr,hs,?_,h.cp.stp aE Kh,?_,h.ls⟩,?_⟩
 .unfold cZ;rw[nodup_cons,nodup_append];refine⟨?_,?_,?_,?_⟩
  .simp only[mem_append,Option.mem_toList,not_or];exact⟨n1,aM⟩
  .cases sv.ownBlock <;> simp
  .cases cv'.ownBlock <;> simp
  .intro a ha b m6 e;subst e;rw[Option.mem_toList]at ha m6;rcases hf a m6 with h1|h1
   .exact n3 a ha h1
   .have:=(h.st.lt a ha).2;omega
 .intro k hk hm;simp only[cZ,mem_cons,mem_append,Option.mem_toList]at hm;rcases hm with rfl|hm|hm
  .exact h.dc _ hk (by simp[cZ])
  .exact h.dc k hk (by simp[cZ,hm])
  .rcases hf k hm with h1|h1
   .exact h.dc k hk (by simp[cZ,h1])
   .have:=h.cp.lt k hk;omega
 .refine(aE.wide (G:=cZ R sv cv) ?_).foots ?_
  .intro k hk;rcases mem_cons.1 hk with rfl|hk
   .simp[cZ]
   .simp only[cZ,mem_cons,mem_append];exact zq1 (zq1 hk)
  .intro k hk;simp only[cZ,mem_cons,mem_append,Option.mem_toList]at hk ⊢;rcases hk with rfl|hk|hk
   .exact zq0 (zq0 rfl)
   .exact zq0 (zq1 (zq0 hk))
   .rcases hf k hk with h1|h1
    .exact zq0 (zq1 (zq1 h1))
    .exact zq1 h1
theorem Mc.linked(h:Mc w R Q ws s al m vv pv nv sv cv){cs':List (Int × Int)}(hr:w'.ownsRow 0 231 2 cv m.cs.length (dD cs'))(hn:cs'.length=m.cs.length)(hs:ky cs')(aE:am cv.ownBlock.toList w cv.ownBlock.toList w'):Mc w' R Q ws s al { m with cs:=cs' } vv pv nv sv cv/\am (cZ R sv cv) w (cZ R sv cv) w':=by
 refine h.cells (cv':=cv) ?_ hr hn.symm hs h.nds.2.1 (aE.wide (by intro k hk;exact mem_cons_of_mem _ hk));exact h.bk.of_eq (aE.block R h.bk.lt (by simpa using λe=>h.nds.2.1 e))
end
def Oc(nds:List Nd)(n:Nat):Nd:=nds.getD n ⟨0,0,0,0,0,0⟩
theorem Od{l:List Nd}{k:Nat}(h:k<l.length):∀j,j<6->(a7 l)[k*6+j]?=l[k].cells[j]?:=by
 induction l generalizing k with
 |nil=>simp at h
 |cons x l ih =>
  have hx:a7 (x::l)=x.cells++a7 l:=rfl;have hl:x.cells.length=6:=rfl;intro j hj;cases k with
  |zero=>rw[hx,getElem?_append_left (by omega)];simp
  |succ k =>
   rw[hx,getElem?_append_right (by omega),hl,show(k+1)*6+j-6=k*6+j by omega,ih (by simpa using h) j hj];rfl
theorem Dl{w:World}{Q:Nat}{ws:List ByteArray}{s:PS}{al:List bt}{vv pv nv:Value}(n:Nat)(h:Cp w Q ws s al vv pv nv)(hl:s.nodes.length<=100000):
  Calls prog 103 #[.pointer (some ⟨Q,0,none⟩),.int .i64 n] w λe w'=>e=.returned (.agg (Oc s.nodes n).cells.toArray)/\Below w.heap.size w w':=by
 have c3:=h.bk.cell 3 rfl;have hQ:=h.bk.lt;have hb:=af w (.cells #[Value.int .i64 0,.int .i64 0,.int .i64 0,.int .i64 0,.int .i64 0,.int .i64 0] 186);have d3:=(hb.cell (block_lt_of_cell? w _ c3)).trans c3;by_cases hn:n<s.nodes.length
 .obtain⟨g,cap,rfl,fs,hm,gE⟩:=aS h.nr (by omega);have hg:=Od hn;have x:∀j,j<6->w.cell? ⟨g,n*6+j,none⟩=s.nodes[n].cells[j]?:=λj hj=>(h.nr.cellAt (n*6+j) (by omega)).trans (hg j hj);have x':∀j,j<6->(w.alloc (.cells #[Value.int .i64 0,.int .i64 0,.int .i64 0,.int .i64 0,.int .i64 0,.int .i64 0] 186)).cell? ⟨g,n*6+j,none⟩=s.nodes[n].cells[j]?:=λj hj=>(hb.cell (p:=⟨g,n*6+j,none⟩) gE).trans (x j hj);have HE:Hid (Oc s.nodes n=s.nodes[n]):=ab (by simp[Oc,hn]);generalize s.nodes[n]=nd at *;obtain⟨op,v,ak,ai,nx,ot⟩:=nd;have x0:=x' 0 (by omega);have x1:=x' 1 (by omega);have x2:=x' 2 (by omega);have x3:=x' 3 (by omega);have x4:=x' 4 (by omega);have x5:=x' 5 (by omega);simp only[Nd.cells,getElem?_cons_zero,getElem?_cons_succ,Nat.add_zero]at x0 x1 x2 x3 x4 x5;clear x x' hg h c3 hb;go_enter func103,ntmps103;go_wp2_with fail
  refine bodyPost_ret (v:=.agg #[.int .i64 op,.int .i64 v,.int .i64 ak,.int .i64 ai,.int .i64 nx,.int .i64 ot]) (by simp[results,Tryz.results103,go_sem]) rfl ⟨?_,?_⟩
  .rw[uh HE];rfl
  .exact af _ _
 .obtain⟨ao,cap,rfl,fs,hm⟩:=ah h.nr;have HE:Hid (Oc s.nodes n=⟨0,0,0,0,0,0⟩):=ab (by unfold Oc;simp[List.getD,getElem?_eq_none (Nat.le_of_not_lt hn)]);have bZ:(s.nodes.length:Int)<=(n:Int):=by omega
  clear h c3 hb;go_enter func103,ntmps103;go_wp2_with fail
  refine bodyPost_ret (v:=.agg #[.int .i64 0,.int .i64 0,.int .i64 0,.int .i64 0,.int .i64 0,.int .i64 0]) (by simp[results,Tryz.results103,go_sem]) rfl ⟨?_,?_⟩
  .rw[uh HE];rfl
  .exact af _ _
section
variable {w:World} {R Q:Nat} {ws:List ByteArray} {s:PS} {al:List bt} {m:MS} {vv pv nv sv cv:Value}
theorem BN(h:Mc w R Q ws s al m vv pv nv sv cv)(v:Nat):
  Calls prog 104 #[.pointer (some ⟨R,0,none⟩),.int .i64 v] w λe w'=>e=.returned (.int .i64 (m.st.getD v 0))/\∃n,w'=w.drewN n:=by
 have c3:=h.c3;by_cases hv:v<m.st.length
 .obtain⟨g,cap,rfl,fs,hm,gE⟩:=aS h.st (by omega);have x:=(h.st.cellAt v (by omega)).trans (yO hv);generalize m.st.getD v 0=y at *;clear h;go_enter func104,ntmps104;go_wp2_with fail
  go_ret;exact⟨rfl,0,rfl⟩
 .obtain⟨ao,cap,rfl,fs,hm⟩:=ah h.st;have e:m.st.getD v 0=0:=by simp[List.getD,getElem?_eq_none (Nat.le_of_not_lt hv)]
  have bZ:(m.st.length:Int)<=(v:Int):=by omega
  rw[e];clear h e;go_enter func104,ntmps104;go_wp2_with fail
  go_ret;exact⟨rfl,0,rfl⟩
def vU(st:List Int)(k i:Nat):Int:=if k=0 then 0 else st.getD i 0
theorem N7(h:Mc w R Q ws s al m vv pv nv sv cv)(k i:Nat):
  Calls prog 105 #[.pointer (some ⟨R,0,none⟩),.agg #[.int .i64 k,.int .i64 i]] w λe w'=>e=.returned (.int .i64 (vU m.st k i))/\Below w.heap.size w w':=by
 have hb:=af w (.cells #[Value.int .i64 k,.int .i64 i] 184);have HB:=ab hb;have HV:=ab (BN (h.below hb) i);by_cases hk:k=0
 .subst hk;have e:vU m.st 0 i=0:=rfl;rw[e];clear h hb e;go_enter func105,ntmps105;go_wp2_with fail
  go_ret;exact⟨rfl,uh HB⟩
 .have e:vU m.st k i=m.st.getD i 0:=if_neg hk;have hk0:((k:Int)==0)=false:=by simpa using hk
  rw[e];clear h hb e;go_enter func105,ntmps105;go_wp2_with (go_at_call 104;refine(uh HV).mono ?_;rintro e w' ⟨rfl,n,rfl⟩)
  go_ret;exact⟨rfl,(uh HB).trans ((cJ _ _).mono (uh HB).size)⟩
theorem tQ(h:Mc w R Q ws s al m vv pv nv sv cv)(v:Nat)(x:Int):
  Calls prog 106 #[.pointer (some ⟨R,0,none⟩),.int .i64 v,.int .i64 x] w λe w'=>e=.returned (.tuple #[])/\Mc w' R Q ws s al { m with st:=m.st.set v x } vv pv nv sv cv/\am (cZ R sv cv) w (cZ R sv cv) w':=by
 have c3:=h.c3;have H:=ab h;by_cases hv:v<m.st.length
 .obtain⟨g,cap,hs,fs,hm,gE⟩:=aS h.st (by omega);have HS:=ab hs;have aF:=h.st;rw[hs]at c3 aF;have y:=(aF.cellAt v (by omega)).trans (yO hv);have z:=aF.frozenAt v;generalize m.st.getD v 0=y0 at y;clear h hs aF;go_enter func106,ntmps106;go_wp2_with fail
  go_end0
  refine⟨rfl,(uh H).setVar (uh HS) v x,(am.refl _ _).setCell (zq0 ?_) _⟩;rw[uh HS];simp[cZ,Value.ownBlock]
 .obtain⟨ao,cap,hs,fs,hm⟩:=ah h.st;rw[hs]at c3;have bZ:(m.st.length:Int)<=(v:Int):=by omega
  have HE:Hid (m.st.set v x=m.st):=ab (set_eq_of_length_le (by omega));clear h hs;go_enter func106,ntmps106;go_wp2_with fail
  go_end0
  exact⟨rfl,by rw[uh HE];exact uh H,am.refl _ _⟩
end
structure J9(nds:List Nd):Prop where
 v:∀n,(nds.getD n bj).v<4/\(nds.getD n bj).ai<4
 op:∀n,(nds.getD n bj).op<=1000
 nx:∀n,n<nds.length->(nds.getD n bj).op≠0->(nds.getD n bj).nx<nds.length
 ot:∀n,n<nds.length->((nds.getD n bj).op=7\/(nds.getD n bj).op=8\/(nds.getD n bj).op=9)->(nds.getD n bj).ot<nds.length
theorem Dy{n:Nd}{f:CF}(h:(d7 n f).nx≠[]):n.op≠0:=λe=>h (by unfold d7;rw[if_pos e];rfl)
theorem Dz{n:Nd}{f:CF}(h:(d7 n f).ot≠[]):n.op=7\/n.op=8\/n.op=9:=by
 apply Classical.byContradiction;intro hc;simp only[not_or]at hc;apply h;unfold d7;repeat' split
 all_goals first|rfl|(exfalso;omega)
structure Lp(w W:World)(S:Nat)(c:Cd)(c0 hv kv wv:Value)(QS WV:List Value)(K0:List (List En))(X:List Nat)(KV:List Value)(K:List (List En))(s:Sr)(v:Value)(L:List FE)(j:Nat)(Z:List Nat):Prop where
 sh:Sh W S c c0 hv kv wv KV WV K s
 kl:K.length=K0.length
 go:fL w W (cD S hv kv wv QS WV) (cD S hv kv wv KV WV) (dK K0) (dK K) X
 pn:Pn W v L j (cD S hv kv wv KV WV) (dK K)
 ap:∀k∈Z,(k ∉ cD S hv kv wv KV WV/\k ∉ dK K)/\k ∉ kU v L j/\k<W.heap.size
 nw:∀k∈kU v L j,k∈X\/w.heap.size<=k
section
variable {w W W':World} {S:Nat} {c:Cd} {c0 hv kv wv:Value} {QS WV KV:List Value} {K0 K:List (List En)} {X Z:List Nat} {s s':Sr} {v:Value} {L:List FE} {j:Nat}
theorem Lp.next(h:Lp w W S c c0 hv kv wv QS WV K0 X KV K s v L j Z)(hj:j<L.length)(hP:fM W S c c0 hv kv wv KV WV K L[j].bs s' W'):∃KV' K',Lp w W' S c c0 hv kv wv QS WV K0 X KV' K' s' v L (j+1) Z/\∀k∈Z,W'.heap[k]?=W.heap[k]?:=by
 obtain⟨KV',K',h1,h2,h3⟩:=hP;obtain⟨-,-,-,n4,n5⟩:=h.pn.pe.next hj;refine⟨KV',K',⟨h1,h2.trans h.kl,h.go.trans h3 (λk hk=>h.nw k (n5 k hk)),h.pn.next hj h3,λk hk=>?_,λk hk=>h.nw k (n4 k hk).1⟩,λk hk=>?_⟩
 .obtain⟨⟨a1,a2⟩,a3,a4⟩:=h.ap k hk;refine⟨⟨λhn=>?_,λhn=>?_⟩,λhn=>a3 (n4 k hn).1,zq6 a4 h3.st.size⟩
  .rcases h3.st.foot k hn with p|p
   .rcases mem_append.1 p with p|p
    .exact a1 p
    .exact a3 (n5 k p)
   .omega
  .rcases h3.dr k hn with p|p|p
   .exact a2 p
   .exact a3 (n5 k p)
   .omega
 .obtain⟨⟨a1,a2⟩,a3,a4⟩:=h.ap k hk;refine h3.st.block k a4 (λhn=>?_);rcases mem_append.1 hn with p|p
  .exact a1 p
  .exact a3 (n5 k p)
theorem Lp.end'(h:Lp w W S c c0 hv kv wv QS WV K0 X KV K s v L j Z):fM w S c c0 hv kv wv QS WV K0 X s W:=⟨KV,K,h.sh,h.kl,h.go⟩
end
structure Sx(w W:World)(S:Nat)(c:Cd)(c0 hv kv wv:Value)(KV WV:List Value)(K:List (List En))(s:Sr)(O:Nat)(nu da fu:Bool)(nv tv:Value)(Ln Lt:List FE)(Y:Nat)(nd:Nd):Prop where
 sh:Sh W S c c0 hv kv wv KV WV K s
 go:fL w W (cD S hv kv wv KV WV) (cD S hv kv wv KV WV) (dK K) (dK K) []
 oo:Oo W O nu da fu nv tv Ln Lt
 bx:Bk W Y 186 nd.cells
 on:∀k∈Y::dU O nv tv Ln Lt,(k ∉ cD S hv kv wv KV WV/\k ∉ dK K)/\w.heap.size<=k
 yn:Y ∉ dU O nv tv Ln Lt
section
variable {w W:World} {S:Nat} {c:Cd} {c0 hv kv wv:Value} {KV WV:List Value} {K:List (List En)} {s:Sr} {O:Nat} {nu da fu:Bool} {nv tv:Value} {Ln Lt:List FE} {Y:Nat} {nd:Nd}
theorem Sx.bad(h:Sx w W S c c0 hv kv wv KV WV K s O nu da fu nv tv Ln Lt Y nd){n:Nat}(hn:n<K.length){t:Nat}(ht:t<5){g cap:Nat}(hg:WV.getD n aH=.slice (some ⟨g,0,none⟩) 5 cap):Sx w (W.setCell ⟨g,t,none⟩ (.bool true)) S c c0 hv kv wv KV WV K (mf n t s) O nu da fu nv tv Ln Lt Y nd:=by
 obtain⟨h1,h2⟩:=h.sh.bad hn ht hg;have aM:∀k∈Y::dU O nv tv Ln Lt,(W.setCell ⟨g,t,none⟩ (.bool true)).heap[k]?=W.heap[k]?:=λk hk=>heap_setCell _ _ _ _ (λe=>(h.on k hk).1.1 (by rw[show k=g from e];exact h2));exact⟨h1,h.go.trans (fL.stp (X:=[]) ((am.refl [g] W).setCell (p:=⟨g,t,none⟩) (zq0 (by simp)) (.bool true)) (λk hk=>zq0 (by rw[mem_singleton]at hk;rw[hk];exact h2))) (λk hk=>by simp at hk),h.oo.of_eq (λk hk=>aM k (mem_cons_of_mem _ hk)),h.bx.of_eq (aM Y (by simp)),h.on,h.yn⟩
theorem Sx.full(h:Sx w W S c c0 hv kv wv KV WV K s O nu da fu nv tv Ln Lt Y nd):Sx w (W.setCell ⟨S,8,none⟩ (.bool true)) S c c0 hv kv wv KV WV K { s with fu:=true } O nu da fu nv tv Ln Lt Y nd:=by
 have hs:am [S] W [S] (W.setCell ⟨S,8,none⟩ (.bool true)):=(am.refl [S] W).setCell (p:=⟨S,8,none⟩) (zq0 (by simp)) (.bool true);have h1:=h.sh.own (s':={ s with fu:=true }) (h.sh.bs.set 8 (.bool true)) hs (λk hk=>zq0 (mem_singleton.1 hk)) rfl rfl;have aM:∀k∈Y::dU O nv tv Ln Lt,(W.setCell ⟨S,8,none⟩ (.bool true)).heap[k]?=W.heap[k]?:=λk hk=>heap_setCell _ _ _ _ (λe=>(h.on k hk).1.1 (by rw[show k=S from e];exact fj));exact⟨h1,h.go.trans (fL.stp (X:=[]) hs (λk hk=>zq0 (by rw[mem_singleton]at hk;rw[hk];exact fj))) (λk hk=>by simp at hk),h.oo.of_eq (λk hk=>aM k (mem_cons_of_mem _ hk)),h.bx.of_eq (aM Y (by simp)),h.on,h.yn⟩
theorem Sx.lp(h:Sx w W S c c0 hv kv wv KV WV K s O nu da fu nv tv Ln Lt Y nd)(ht:∀x∈Ln,Td x.f):Lp w W S c c0 hv kv wv KV WV K [] KV K s nv Ln 0 (Y::O::a6 tv Lt):=by
 have cH:=nodup_cons.1 h.oo.nd;have tq:=nodup_append.1 cH.2;have e:kU nv Ln 0=a6 nv Ln:=by simp[kU,a6]
 refine⟨h.sh,rfl,h.go,⟨h.oo.nx.pend,ht,λk hk=>?_⟩,λk hk=>?_,λk hk=>zq1 ?_⟩
 .rw[e]at hk;exact(h.on k (by simp only[dU,mem_cons,mem_append];exact zq1 (zq1 (zq0 hk)))).1
 .have hm:k∈Y::dU O nv tv Ln Lt:=by
   simp only[dU,mem_cons,mem_append]at hk ⊢;rcases hk with p|p|p
   .exact zq0 p
   .exact zq1 (zq0 p)
   .exact zq1 (zq1 (zq1 p))
  refine⟨(h.on k hm).1,λhn=>?_,?_⟩
  .rw[e]at hn;rcases mem_cons.1 hk with p|p
   .exact h.yn (by rw[<-p];simp only[dU,mem_cons,mem_append];exact zq1 (zq0 hn))
   .rcases mem_cons.1 p with p|p
    .exact cH.1 (by rw[<-p];exact mem_append_left _ hn)
    .exact tq.2.2 k hn k p rfl
  .rcases mem_cons.1 hm with p|p
   .rw[p];exact h.bx.lt
   .exact h.oo.lt k p
 .rw[e]at hk;exact(h.on k (by simp only[dU,mem_cons,mem_append];exact zq1 (zq1 (zq0 hk)))).2
end
