import Derived.Test.YtciihepbeacppaaGreatM35
set_option maxRecDepth 100000
set_option maxHeartbeats 0
namespace Go.Proofs.YtciihepbeacppaaGreat
open Tryz Go.RowKit List World Below
set_option linter.unusedVariables false
def kQ(k:Nat)(l:List Int):Nat:=l.countP (λa=>decide ((21:Int)+k<=a))
theorem nO(k:Nat)(l:List Int):kQ (k+1) l<=kQ k l:=countP_mono_left (λa _ h=>by
 simp only[decide_eq_true_eq]at h ⊢;omega)
theorem Lu{k:Nat}{l l':List Int}(h:l.Sublist l'):kQ k l<=kQ k l':=h.countP_le
theorem Tn(l:List (Int × Int))(i:Nat)(n:Int):(uV l i n).map (·.1)=l.map (·.1):=by
 unfold uV;rw[map_set];apply ext_getElem
 .simp
 .intro j h1 h2;rw[getElem_set];split
  .rename_i hj;subst hj;have hi:i<l.length:=(by simpa using h2);simp[hi]
  .rfl
theorem mX(nds:List Nd)(m:MS)(n:Nat):(pi nds m n).cs=m.cs:=by unfold pi;split <;> rfl
theorem pZ(nds:List Nd)(m:MS)(nd:Nd)(a:Int)(b:Bool):(ni nds m nd a b).cs=m.cs:=by unfold ni;split;exact mX _ _ _;rfl
theorem Ev(nds:List Nd)(m:MS)(nd:Nd)(b:Bool):(GR nds m nd b).cs=m.cs:=mX _ _ _
theorem Cl(nds:List Nd)(m:MS)(c:Int):((kJ nds m c).2=5/\(kJ nds m c).1=m/\((c<1\/1048576<c)\/c∈m.cs.map (·.1))) \/
  ((kJ nds m c).2=0/\(((kJ nds m c).1.cs.map (·.1)).Sublist (m.cs.map (·.1))\/((kJ nds m c).1.cs.map (·.1)).Perm (c::m.cs.map (·.1)))):=by
 have same:∀{x:MS},x.cs=m.cs->(x.cs.map (·.1)).Sublist (m.cs.map (·.1)):=λh=>by rw[h];exact List.Sublist.refl _
 unfold kJ;split
 .exact zq1 ⟨rfl,zq0 (same rfl)⟩
 .simp only;split
  .exact zq1 ⟨rfl,zq0 (same (mX _ _ _))⟩
  .split
   .unfold Ix;split
    .rename_i h;exact zq0 ⟨rfl,rfl,zq0 h⟩
    .split
     .rename_i i h;exact zq0 ⟨rfl,rfl,zq1 (rA h)⟩
     .refine zq1 ⟨rfl,zq1 ?_⟩;show((pi nds _ _).cs.map (·.1)).Perm _;rw[mX];exact((sB m.cs c 0).map (·.1)).symm
   .split
    .refine zq1 ⟨rfl,zq0 (same ?_)⟩;unfold P0;split
     .exact pZ _ _ _ _ _
     .exact pZ _ _ _ _ _
    .split
     .refine zq1 ⟨rfl,zq0 ?_⟩;show((match cq m.cs _ with|some i=>_|none=>_:MS).cs.map (·.1)).Sublist _;split
      .rw[pZ];show((uV m.cs _ _).map (·.1)).Sublist _;rw[Tn];exact List.Sublist.refl _
      .rw[pZ];exact List.Sublist.refl _
     .split
      .refine zq1 ⟨rfl,zq0 ?_⟩;show((match cq m.cs _ with|some i=>_|none=>_:MS).cs.map (·.1)).Sublist _;split
       .rw[pZ];exact(eraseIdx_sublist _ _).map _
       .rw[pZ];exact List.Sublist.refl _
      .split
       .exact zq1 ⟨rfl,zq0 (same (Ev _ _ _ _))⟩
       .split
        .exact zq1 ⟨rfl,zq0 (same (Ev _ _ _ _))⟩
        .split
         .exact zq1 ⟨rfl,zq0 (same (Ev _ _ _ _))⟩
         .split
          .exact zq1 ⟨rfl,zq0 (same (mX _ _ _))⟩
          .exact zq1 ⟨rfl,zq0 (same rfl)⟩
structure zE(k:Nat)(m:MS):Prop where
 ln:m.cs.length<=8+k
 up:kQ k (m.cs.map (·.1))<=8
theorem zE.sub{k:Nat}{m x:MS}(h:zE k m)(hs:(x.cs.map (·.1)).Sublist (m.cs.map (·.1))):zE (k+1) x:=by
 have h1:=hs.length_le;simp only[length_map]at h1;have h2:=Lu (k:=k+1) hs;have h3:=nO k (m.cs.map (·.1));exact⟨by have:=h.ln;omega,by have:=h.up;omega⟩
theorem zE.low{k:Nat}{m x:MS}{c:Int}(h:zE k m)(hc:c<=20)(hp:(x.cs.map (·.1)).Perm (c::m.cs.map (·.1))):zE (k+1) x:=by
 have h1:=hp.length_eq;simp only[length_map,length_cons]at h1;have h2:kQ (k+1) (x.cs.map (·.1))=kQ (k+1) (m.cs.map (·.1)):=by
  unfold kQ;rw[hp.countP_eq,countP_cons];simp;omega
 have h3:=nO k (m.cs.map (·.1));exact⟨by have:=h.ln;omega,by have:=h.up;omega⟩
def Tkn(k j:Nat)(m:MS):Prop:=∀i,1<=i->i<j->((20:Int)+i+k)∈m.cs.map (·.1)
theorem zE.high{k j:Nat}{m x:MS}(h:zE k m)(hn:(m.cs.map (·.1)).Nodup)(hj:1<=j)(ht:Tkn k j m)(hp:(x.cs.map (·.1)).Perm (((20:Int)+j+k)::m.cs.map (·.1))):zE (k+1) x:=by
 have h1:=hp.length_eq;simp only[length_map,length_cons]at h1;have h2:kQ (k+1) (x.cs.map (·.1))=kQ (k+1) (m.cs.map (·.1))+(if j=1 then 0 else 1):=by
  unfold kQ;rw[hp.countP_eq,countP_cons];congr 1;by_cases e:j=1
  .rw[if_pos e];simp;omega
  .rw[if_neg e];simp;omega
 have h3:kQ (k+1) (m.cs.map (·.1))+(if j=1 then 0 else 1)<=kQ k (m.cs.map (·.1)):=by
  by_cases e:j=1
  .rw[if_pos e];exact nO k _
  .rw[if_neg e];have hm:=ht 1 (zq4 _) (by omega);obtain⟨a,b,qo⟩:=append_of_mem hm;rw[qo];unfold kQ;rw[countP_append,countP_append,countP_cons,countP_cons];have e1:decide ((21:Int)+(k+1:Nat)<=(20:Int)+(1:Nat)+k)=false:=(by rw[decide_eq_false_iff_not];omega);have e2:decide ((21:Int)+k<=(20:Int)+(1:Nat)+k)=true:=(by rw[decide_eq_true_eq];omega);rw[e1,e2];have g1:=nO k a;have g2:=nO k b;unfold kQ at g1 g2;simp only[Bool.false_eq_true,if_false,if_true];omega
 exact⟨by have:=h.ln;omega,by have:=h.up;omega⟩
theorem Uy{k:Nat}{m:MS}(h:zE k m)(ht:Tkn k 300 m):False:=by
 have Jn:∀a∈(range 299).map (λi:Nat=>(21:Int)+(i:Int)+(k:Int)),a∈(m.cs.map (·.1)).filter (λa=>decide ((21:Int)+k<=a)):=by
  intro a ha;obtain⟨i,hi,rfl⟩:=mem_map.1 ha;have hi:=mem_range.1 hi;refine mem_filter.2 ⟨?_,by simp;omega⟩;have:=ht (i+1) (by omega) (by omega);rw[show(20:Int)+((i+1:Nat):Int)+k=21+i+k by omega]at this;exact this
 have cH:((range 299).map (λi:Nat=>(21:Int)+(i:Int)+(k:Int))).Nodup:=by
  refine List.Pairwise.map _ (λa b qo=>?_) nodup_range;intro e;omega
 have h1:=cH.length_le_of_subset Jn;rw[length_map,length_range,<-countP_eq_length_filter]at h1;have:=h.up;unfold kQ at this;omega
def rq(s:ByteArray):List Int:=s.data.toList.map (λc=>(c.toNat:Int))
theorem rs(s:ByteArray):(rq s).length=s.size:=by unfold rq;rw[length_map];exact ci s
theorem Q4{s:ByteArray}{k:Nat}(h:k<s.size):(rq s).take (k+1)=(rq s).take k++[(s[k].toNat:Int)]:=by
 have hk:k<(rq s).length:=by rw[rs];exact h
 rw[take_succ_eq_append_getElem hk];congr 2;simp only[rq,getElem_map];rfl
theorem wu(s:ByteArray)(w:World)(hs:s.size<=1024):Calls prog 17 #[.string s] w λe w'=>∃v,e=.returned v/\w'.ownsRow w.heap.size 3 1 v (rq s).length (di (rq s))/\Below w.heap.size w w':=by
 obtain⟨i0,iy,dG,du,ef⟩:=info_parts infoInt;go_enter func17,ntmps17;go_wp2_with fail
 go_loopg [3,4] s.size (λgn ov iv wx=>∃k:Nat,k+gn=s.size/\iv=.int .i64 k/\Hid (wx.ownsRow w.heap.size 3 1 ov k (di ((rq s).take k))/\Below w.heap.size w wx))
 case atStart=>exact⟨0,by omega,rfl,ab ⟨ownsRow_nil _ _ _ _,Below.refl _ _⟩⟩
 case round =>
  obtain⟨k,fC,rfl,hI⟩:=hrel;obtain⟨G1,wK⟩:∃G1,G1=gk:=⟨_,rfl⟩;obtain⟨h1,h2⟩:=uh hI;by_cases ar:k<s.size
  .have hd:decide ((k:Int)<(s.size:Int))=true:=(by simp;omega);obtain⟨la,lc,rfl,-,-⟩:=ah h1;have b9:s[k].toNat<=255:=(by have:=s[k].toNat_lt;omega);have bA:=ab (Q4 ar);have HR:=ab h1;have HB:=ab h2;have jO:=h2.size;clear h1 h2 hI;go_wp2_with (at_builtin;refine aK _ rfl (.tmp 11) (.tmp 16) 29 rfl w.heap.size 3 i0 _ 1 8 underlying29 iy dG du ef rfl (by decide) _ k (di ((rq s).take k)) rfl ((uh HR).alloc _) ⟨_,0,none⟩ 1 [.int .i64 (s[k].toNat:Int)] rfl rfl (aJ _ _ (by simp) [.int .i64 (s[k].toNat:Int)] _) (by intro u hu;simp only[mem_singleton]at hu;subst hu;rfl) (by omega) (by omega) (by simp;omega) ?_)
   intro g4 cap4 w4 dO bU gi;have HN:Hid (w4.ownsRow w.heap.size 3 1 (.slice (some ⟨g4,0,none⟩) (k+1) cap4) (k+1) (di ((rq s).take (k+1)))/\Below w.heap.size w w4):=ab ⟨by
    rw[uh bA];show w4.ownsRow _ _ _ _ _ (List.map _ ((rq s).take k++[(s[k].toNat:Int)]));rw[map_append];exact dO,by
    have hb:=(uh HB).alloc (uh HB).size (.cells #[.int .i64 (s[k].toNat:Int)] 3);exact hb.grown bU hb.size (λq hq=>((uh HR).lt q hq).1)⟩
   clear dO bU gi HR HB;go_wp2_with fail
   go_roundg (G1-1)
   case rel=>exact⟨k+1,by omega,by go_num,HN⟩
   case measure=>omega
  .have hd:decide ((k:Int)<(s.size:Int))=false:=(by simp;omega);have iz:k=(rq s).length:=(by rw[rs];omega);have HN:Hid (wr.ownsRow w.heap.size 3 1 u3 (rq s).length (di (rq s))/\Below w.heap.size w wr):=ab ⟨by
    have:=h1;rw[iz,take_length]at this;exact this,h2⟩
   clear h1 h2 hI iz;go_wp2_with fail
   go_ret;exact⟨_,rfl,(uh HN).1,(uh HN).2⟩
structure xJ(w0 w:World)(Y X Yr R Q:Nat)(s:ByteArray)(ws:List ByteArray)(G:List Nat)(m:MS)(vv pv nv sv cv sa ca:Value):Prop where
 dk:Bk w Y 36 [.pointer (some ⟨X,0,none⟩),.string s,sa,ca]
 pg:mR w X ws G
 ry:Bk w Yr 124 [kA R]
 mc:Mc w R Q ws (dH ws a9) (gb ws a9) m vv pv nv sv cv
 yG:Y ∉ G
 yM:Y ∉ cZ R sv cv
 rG:Yr ∉ G
 rM:Yr ∉ cZ R sv cv
 gM:∀k∈G,k ∉ cZ R sv cv
 xc:X ∉ qK Q vv pv nv
 bG:∀k∈G,w0.heap.size<=k
 bM:∀k∈cZ R sv cv,w0.heap.size<=k
 bw:Below w0.heap.size w0 w
section
variable {w0 w w':World} {Y X Yr R Q:Nat} {s:ByteArray} {ws:List ByteArray} {G G':List Nat} {m m':MS} {vv pv nv sv cv cv' sa ca:Value}
theorem xJ.below(h:xJ w0 w Y X Yr R Q s ws G m vv pv nv sv cv sa ca)(hb:Below w.heap.size w w'):xJ w0 w' Y X Yr R Q s ws G m vv pv nv sv cv sa ca :=
 ⟨h.dk.below hb,h.pg.below hb,h.ry.below hb,h.mc.below hb,h.yG,h.yM,h.rG,h.rM,h.gM,h.xc,h.bG,h.bM,h.bw.trans (hb.mono h.bw.size)⟩
theorem xJ.ask(h:xJ w0 w Y X Yr R Q s ws G m vv pv nv sv cv sa ca)(a:Ask w X ws G G' w'):xJ w0 w' Y X Yr R Q s ws G' m vv pv nv sv cv sa ca:=by
 have hX:=h.pg.mem;have zV:Y<w.heap.size:=h.dk.lt;have wP:Yr<w.heap.size:=h.ry.lt;have aM:∀{k},k ∉ G->k ∉ [X]:=λhk hm=>hk (by rw[mem_singleton.1 hm];exact hX);refine⟨h.dk.stp a.st (aM h.yG),a.pg,h.ry.stp a.st (aM h.rG),h.mc.of_eq (λk hk=>?_),λhk=>?_,h.yM,λhk=>?_,h.rM,λk hk hm=>?_,h.xc,λk hk=>?_,h.bM,?_⟩
 .rcases hk with hk|hk
  .exact a.st.block k (h.mc.lt k hk) (λe=>h.gM X hX (by rw[<-mem_singleton.1 e];exact hk))
  .exact a.st.block k (h.mc.cp.lt k hk) (λe=>h.xc (by rw[<-mem_singleton.1 e];exact hk))
 .rcases a.gr Y hk with hk|hk
  .exact h.yG hk
  .omega
 .rcases a.gr Yr hk with hk|hk
  .exact h.rG hk
  .omega
 .rcases a.gr k hk with hk|hk
  .exact h.gM k hk hm
  .have:=h.mc.lt k hm;omega
 .rcases a.gr k hk with hk|hk
  .exact h.bG k hk
  .have:=h.bw.size;omega
 .exact h.bw.trans (a.st.below h.bw.size (λk hk=>by rw[mem_singleton.1 hk];exact h.bG X hX))
theorem xJ.step(h:xJ w0 w Y X Yr R Q s ws G m vv pv nv sv cv sa ca)(hm:Mc w' R Q ws (dH ws a9) (gb ws a9) m' vv pv nv sv cv')(st:am (cZ R sv cv) w (cZ R sv cv') w'):xJ w0 w' Y X Yr R Q s ws G m' vv pv nv sv cv' sa ca:=by
 have zV:Y<w.heap.size:=h.dk.lt;have wP:Yr<w.heap.size:=h.ry.lt;refine⟨h.dk.stp st h.yM,h.pg.of_eq (λk hk=>st.block k (h.pg.lt k hk) (h.gM k hk)),h.ry.stp st h.rM,hm,h.yG,λhk=>?_,h.rG,λhk=>?_,λk hk kH=>?_,h.xc,h.bG,λk hk=>?_,?_⟩
 .rcases st.foot Y hk with hk|hk
  .exact h.yM hk
  .omega
 .rcases st.foot Yr hk with hk|hk
  .exact h.rM hk
  .omega
 .rcases st.foot k kH with kH|kH
  .exact h.gM k hk kH
  .have:=h.pg.lt k hk;omega
 .rcases st.foot k hk with hk|hk
  .exact h.bM k hk
  .have:=h.bw.size;omega
 .exact h.bw.trans (st.below h.bw.size h.bM)
theorem mR.start(h:mR w X ws G)(hA:AnW ws){st ls:List Int}(aE:nB w sa 1 st.length (di st))(uR:nB w ca 1 ls.length (di ls)):
  ∃Q vv pv nv,X ∉ qK Q vv pv nv/\(∀k∈qK Q vv pv nv,k∈G)/\∀W,Below w.heap.size w W->Calls prog 34 #[.pointer (some ⟨X,0,none⟩),sa,ca] W (KM W Q ws (dH ws a9) (gb ws a9) vv pv nv st ls):=by
 obtain⟨Q,vv,pv,nv,fv,Z,h1,hG⟩:=h;exact⟨Q,vv,pv,nv,h1.nx.1,λk hk=>by rw[hG];exact mem_cons_of_mem _ (mem_append_left _ hk),λW hb=>Et (h1.bx.below hb) (h1.cp.below hb) hA.a hA.l hA.v (aE.below hb) (uR.below hb)⟩
end
def TL(c:Int)(n:Nat):Nat:=(if c<0 then (-(c+1))%(n:Int) else c%(n:Int)).toNat
theorem OA(c:Int){n:Nat}(h:0<n):TL c n<n:=by
 unfold TL;split
 .have h1:=Int.emod_nonneg (-(c+1)) (show(n:Int)≠0 by omega);have h2:=Int.emod_lt_of_pos (-(c+1)) (show(0:Int)<(n:Int) by omega);omega
 .have h1:=Int.emod_nonneg c (show(n:Int)≠0 by omega);have h2:=Int.emod_lt_of_pos c (show(0:Int)<(n:Int) by omega);omega
theorem xo(w:World)(c:Int)(n:Nat)(hn:0<n)(nE:n<=1000000)(hc:-9223372036854775808<=c/\c<=9223372036854775807):
  Calls prog 35 #[.int .i64 c,.int .i64 n] w λe w'=>e=.returned (.int .i64 (TL c n:Nat))/\w'=w:=by
 have qt:((n:Int)==0)=false:=by simp;omega
 by_cases h:c<0
 .have d1:decide (c<0)=true:=by simpa using h
  have i1:IntKind.i64.wrap (c+1)=c+1:=by rw[IntKind.wrap_i64];omega
  have i2:IntKind.i64.wrap (-(c+1))=-(c+1):=by rw[IntKind.wrap_i64];omega
  have HE:Hid (((TL c n:Nat):Int)=(-(c+1)).tmod n):=ab (by
   unfold TL;rw[if_pos h,Int.tmod_eq_emod_of_nonneg (by omega)];have:=Int.emod_nonneg (-(c+1)) (show(n:Int)≠0 by omega);omega)
  go_enter func35,ntmps35;go_wp2_with fail
  go_ret;exact⟨aQ (by rw[uh HE,Int.neg_tmod]),rfl⟩
 .have d1:decide (c<0)=false:=by simpa using h
  have HE:Hid (((TL c n:Nat):Int)=c%n):=ab (by
   unfold TL;rw[if_neg h];have:=Int.emod_nonneg c (show(n:Int)≠0 by omega);omega)
  have ht:c.tmod n=c%n:=Int.tmod_eq_emod_of_nonneg (by omega);go_enter func35,ntmps35;go_wp2_with fail
  go_ret;exact⟨aQ (by rw[uh HE]),rfl⟩
theorem Tb{ws:List ByteArray}(hA:AnW ws)(z:Int):(qy (dH ws a9).vars (sE ws) z).length<=1000000000001:=by
 unfold qy ivL;split
 .simp
 .rw[length_map,getD_eq_getElem?_getD];cases hg:(sE ws).kn[z.toNat]? with
  |none=>simp
  |some y=>exact At hA y (mem_of_getElem? hg)
def U9(ws:List ByteArray)(m:MS):Prop:=wb (dH ws a9).nodes (dH ws a9).vars.length (mT (dH ws a9).nodes (dH ws a9).vars.length (gb ws a9)) m
def QR(w0 w:World)(Y X Yr R Q:Nat)(s:ByteArray)(ws:List ByteArray)(vv pv nv sv sa ca:Value)(k j:Nat)(ev:Int):Prop :=
 (ev=0/\∃m cv G,xJ w0 w Y X Yr R Q s ws G m vv pv nv sv cv sa ca/\U9 ws m/\zE (k+1) m)\/(ev=5/\∃m cv G,xJ w0 w Y X Yr R Q s ws G m vv pv nv sv cv sa ca/\U9 ws m/\zE k m/\Tkn k j m)
section
variable {w0 w:World} {Y X Yr R Q:Nat} {s:ByteArray} {ws:List ByteArray} {G:List Nat} {m:MS} {vv pv nv sv cv sa ca:Value} {k:Nat}
theorem Ju(aE:∀m c,U9 ws m->U9 ws (kJ (dH ws a9).nodes m c).1)(hl:(dH ws a9).nodes.length<=100000)(h:xJ w0 w Y X Yr R Q s ws G m vv pv nv sv cv sa ca)(hM:U9 ws m)(hC:zE k m)(hk:k<300)(c:Int)(h1:1<=c)(h2:c<=20):
  Calls prog 38 #[.pointer (some ⟨Yr,0,none⟩),.int .i64 c] w λe w'=>∃ev:Int,e=.returned (.int .i64 ev)/\QR w0 w' Y X Yr R Q s ws vv pv nv sv sa ca k 1 ev:=by
 refine(xg h.ry h.mc c hl (by have:=hC.ln;omega)).mono ?_;rintro e w' ⟨rfl,cv',hm,hs⟩;have hR:=h.step hm hs;rcases Cl (dH ws a9).nodes m c with⟨g1,g2,g3⟩|⟨g1,g2⟩
 .refine⟨_,rfl,zq1 ⟨by rw[g1];rfl,m,cv',G,by rw[g2]at hR;exact hR,hM,hC,λi h1 h2=>by omega⟩⟩
 .refine⟨_,rfl,zq0 ⟨by rw[g1];rfl,_,cv',G,hR,aE m c hM,?_⟩⟩;rcases g2 with g2|g2
  .exact hC.sub g2
  .exact hC.low h2 g2
theorem NG(aE:∀m c,U9 ws m->U9 ws (kJ (dH ws a9).nodes m c).1)(hl:(dH ws a9).nodes.length<=100000)(h:xJ w0 w Y X Yr R Q s ws G m vv pv nv sv cv sa ca)(hM:U9 ws m)(hC:zE k m)(hk:k<300){j:Nat}(hj:1<=j)(hj2:j<300)(hT:Tkn k j m):
  Calls prog 38 #[.pointer (some ⟨Yr,0,none⟩),.int .i64 ((20:Int)+j+k)] w λe w'=>∃ev:Int,e=.returned (.int .i64 ev)/\QR w0 w' Y X Yr R Q s ws vv pv nv sv sa ca k (j+1) ev:=by
 refine(xg h.ry h.mc ((20:Int)+j+k) hl (by have:=hC.ln;omega)).mono ?_;rintro e w' ⟨rfl,cv',hm,hs⟩;have hR:=h.step hm hs;rcases Cl (dH ws a9).nodes m ((20:Int)+j+k) with⟨g1,g2,g3⟩|⟨g1,g2⟩
 .refine⟨_,rfl,zq1 ⟨by rw[g1];rfl,m,cv',G,by rw[g2]at hR;exact hR,hM,hC,λi h1 h2=>?_⟩⟩;by_cases e:i=j
  .rw[e];rcases g3 with g3|g3
   .omega
   .exact g3
  .exact hT i h1 (by omega)
 .refine⟨_,rfl,zq0 ⟨by rw[g1];rfl,_,cv',G,hR,aE m _ hM,?_⟩⟩;rcases g2 with g2|g2
  .exact hC.sub g2
  .exact hC.high ((pairwise_map.2 hM.srt).imp (λh=>Int.ne_of_lt h)) hj hT g2
end
section
variable {w0 w:World} {Y X:Nat} {s:ByteArray} {G:List Nat} {sa ca:Value} {st ls:List Int}
theorem OY (Be:Bk w Y 36 [.pointer (some ⟨X,0,none⟩),.string s,sa,ca]) (hp:mR w X (gY s.data.toList) G) (hY:Y ∉ G) (bZ:∀k∈G,w0.heap.size<=k) (kq:Below w0.heap.size w0 w) (hE:lY s.data.toList=0)
  (tB:w.ownsRow 0 3 1 sa st.length (di st)) (Yw:w.ownsRow 0 3 1 ca ls.length (di ls)) (Ko:sa.ownBlock≠some X) (hxc:ca.ownBlock≠some X) (Bv:st.length<=1024) (qq:ls.length<=1024)
  (a b:Int) (ha:-9223372036854775808<=a/\a<=9223372036854775807) (hb:-9223372036854775808<=b/\b<=9223372036854775807) :
  Calls prog 18 #[.pointer (some ⟨Y,0,none⟩),.int .i64 a,.int .i64 b] w λe w'=>e=.returned (.bool true)/\Below w0.heap.size w0 w':=by
 have hA:AnW (gY s.data.toList):=nL hE;have gz:(dH (gY s.data.toList) a9).nodes.length<=100000:=hA.l;have HGS:Hid (∀l:List UInt8,l=s.data.toList->(sE (gY l)).vd=0->(jj (dI l).vars.length (gb (gY l) a9) st ls=0->wb (dI l).nodes (dI l).vars.length (mT (dI l).nodes (dI l).vars.length (gb (gY l) a9)) (pi (dI l).nodes ⟨0,0,st,eK ls⟩ 0)) /\
   (∀m c,wb (dI l).nodes (dI l).vars.length (mT (dI l).nodes (dI l).vars.length (gb (gY l) a9)) m->wb (dI l).nodes (dI l).vars.length (mT (dI l).nodes (dI l).vars.length (gb (gY l) a9)) (kJ (dI l).nodes m c).1) /\
   (∀m,wb (dI l).nodes (dI l).vars.length (mT (dI l).nodes (dI l).vars.length (gb (gY l) a9)) m->qy (dI l).vars (sE (gY l)) (m.nd:Int)≠[])):=ab (λl hl hv=>by
  subst hl;exact⟨λh=>JP hE hv h,λm c hm=>OX hE hv hm c,λm hm=>T1 hv hm _⟩)
 obtain⟨ws,hws⟩:∃ws,ws=gY s.data.toList:=⟨_,rfl⟩;have HWS:=ab hws;have Y1:dI s.data.toList=dH ws a9:=by rw[hws];rfl
 have KK:=ab Y1;rw[<-hws]at hp hA gz;have c0:w.cell? ⟨Y,0,none⟩=some (.pointer (some ⟨X,0,none⟩)):=Be.cell 0 rfl;have HV:=ab (hp.verdict hA);have zJ:=ab (λW=>xo W a 997 (by omega) (by omega) ha);have J5:=ab (λW=>xo W b 991 (by omega) (by omega) hb);have SP:=OA a (n:=997) (by omega);have hpb:=OA b (n:=991) (by omega);obtain⟨xa,aeW⟩:∃x,x=TL a 997:=⟨_,rfl⟩;obtain⟨yb,ae0⟩:∃x,x=TL b 991:=⟨_,rfl⟩;rw[<-aeW]at SP zJ;rw[<-ae0]at hpb J5;have H:=ab (zq2 Be (zq2 hp (zq2 hY (zq2 bZ (zq2 kq (zq2 tB (zq2 Yw (zq2 Ko hxc))))))));have HA:=ab hA;clear Be hp hY bZ kq hE tB Yw Ko hxc hA ha hb hws Y1 aeW ae0;go_enter func18,ntmps18;go_wp2_with fail
 refine(uh HV).mono ?_;rintro e w1 ⟨rfl,G1,CP⟩;obtain⟨Be,hp,hY,bZ,kq,tB,Yw,Ko,hxc⟩:=uh H;have Ym:=hp.mem;have hYX:Y ∉ [X]:=λhm=>hY (by rw[mem_singleton.1 hm];exact Ym);have DZ:=Be.stp CP.st hYX;have aO:Below w0.heap.size w0 w1:=kq.trans (CP.st.below kq.size (λk hk=>by rw[mem_singleton.1 hk];exact bZ X Ym));have SX:w1.ownsRow 0 3 1 sa st.length (di st):=ae tB (λk hk=>CP.st.block k (tB.lt k hk).2 (λe=>Ko (by rw[hk,mem_singleton.1 e])));have Su:w1.ownsRow 0 3 1 ca ls.length (di ls):=ae Yw (λk hk=>CP.st.block k (Yw.lt k hk).2 (λe=>hxc (by rw[hk,mem_singleton.1 e])));obtain⟨Q,vv,pv,nv,hXc,hcG,hSt⟩:=CP.pg.start (uh HA) (nB.of_own SX (by omega)) (nB.of_own Su (by omega));have hY1:Y ∉ G1:=λhk=>by
  rcases CP.gr Y hk with hk|hk
  .exact hY hk
  .have:=Be.lt;omega
 have I7:∀k∈G1,w0.heap.size<=k:=λk hk=>by
  rcases CP.gr k hk with hk|hk
  .exact bZ k hk
  .have:=kq.size;omega
 obtain⟨E,XX⟩:∃E,E=jj (dH ws a9).vars.length (gb ws a9) st ls:=⟨_,rfl⟩;have c0:=DZ.cell 0 rfl;have c2:=DZ.cell 2 rfl;have c3:=DZ.cell 3 rfl;have zV:=DZ.lt;obtain⟨la,lc,Nz,-,-⟩:=ah SX;obtain⟨lb,ld,I3,-,-⟩:=ah Su;by_cases hE0:E=0
 .have bA:Hid (∀W,Below w1.heap.size w1 W->Calls prog 34 #[.pointer (some ⟨X,0,none⟩),sa,ca] W λe w'=>∃Yr R sv cv,e=.returned (.tuple #[.pointer (some ⟨Yr,0,none⟩),.int .i64 0])/\xJ w0 w' Y X Yr R Q s ws G1 (pi (dH ws a9).nodes ⟨0,0,st,eK ls⟩ 0) vv pv nv sv cv sa ca/\Below w1.heap.size w1 w'):=ab (λW hW=>by
   refine(hSt W hW).mono ?_;rintro e w' ⟨bP,⟨aM,-⟩|⟨-,Yr,R,sv,cv,rfl,g1,g2,g3,g4,g5⟩⟩
   .exact absurd (XX.symm.trans hE0) aM
   .have rH:=hW.trans (bP.mono hW.size);have cN:=hW.size;refine⟨Yr,R,sv,cv,rfl,⟨DZ.below rH,CP.pg.below rH,g1,g4,hY1,λhk=>?_,λhk=>?_,g3,λk hk kH=>?_,hXc,I7,λk hk=>?_,aO.trans (rH.mono aO.size)⟩,rH⟩
    .have:=g5 Y hk;omega
    .have:=CP.pg.lt Yr hk;omega
    .have:=CP.pg.lt k hk;have:=g5 k kH;omega
    .have:=g5 k hk;have:=aO.size;omega)
  have hME:(sE ws).vd=0->wb (dH ws a9).nodes (dH ws a9).vars.length (mT (dH ws a9).nodes (dH ws a9).vars.length (gb ws a9)) (pi (dH ws a9).nodes ⟨0,0,st,eK ls⟩ 0)/\zE 0 (pi (dH ws a9).nodes ⟨0,0,st,eK ls⟩ 0):=λhv=>by
   have h9:=uh HGS _ rfl;rw[uh KK,<-uh HWS]at h9;refine⟨(h9 hv).1 (XX.symm.trans hE0),?_⟩;have aqc:ls.length<=16:=by
    have h8:=XX.symm.trans hE0;unfold jj at h8;split at h8
    .cases h8
    .omega
   have er:(eK ls).length<=8:=(by rw[rV];omega);refine⟨by rw[mX];show(eK ls).length<=8+0;omega,?_⟩;rw[mX];unfold kQ;have:=countP_le_length (p:=λa=>decide ((21:Int)+((0:Nat):Int)<=a)) (l:=(eK ls).map (·.1));rw[length_map]at this;exact zq3 this er
  have uI:=ab hME;subst Nz I3;clear Be hp hY bZ kq tB Yw Ko hxc Ym hYX DZ aO SX Su hXc hcG hSt hY1 I7 CP H HV hE0 XX hME;go_upto_region 2 with fail;go_region_held3 (λW=>W.cell? ⟨Y,0,none⟩=some (.pointer (some ⟨X,0,none⟩))/\W.cell? ⟨Y,2,none⟩=some (.slice la st.length lc)/\W.cell? ⟨Y,3,none⟩=some (.slice lb ls.length ld)) (first|(simp only[cell?_drew,c0,c2,c3,and_self];done)|(simp only[u0,u2,u3,and_self];done))
   (first
    |(go_at_call 34;refine(uh bA _ (Below.refl _ _).drew).mono ?_;rintro e w2 ⟨Yr,R,sv,cv,rfl,hRn,ax⟩;have u0:=(ax.cell zV).trans c0;have u2:=(ax.cell zV).trans c2;have u3:=(ax.cell zV).trans c3;have PW:=ab hRn;clear hRn ax))
  all_goals
   obtain⟨W2,d9⟩:∃W2,W2=w2:=⟨_,rfl⟩;by_cases hvd:(sE ws).vd=0
   .have dv:(((sE ws).vd:Int) != (0:Int))=false:=(by rw[hvd];rfl);obtain⟨hM0,Vs⟩:=uh uI hvd;have hRn:=uh PW;have bR:Hid (∃m cv G,xJ w0 w2 Y X Yr R Q s ws G m vv pv nv sv cv (.slice la st.length lc) (.slice lb ls.length ld)/\wb (dH ws a9).nodes (dH ws a9).vars.length (mT (dH ws a9).nodes (dH ws a9).vars.length (gb ws a9)) m/\zE 0 m):=ab ⟨_,_,_,hRn,hM0,Vs⟩;have nK:Hid ((∀m c,wb (dH ws a9).nodes (dH ws a9).vars.length (mT (dH ws a9).nodes (dH ws a9).vars.length (gb ws a9)) m->wb (dH ws a9).nodes (dH ws a9).vars.length (mT (dH ws a9).nodes (dH ws a9).vars.length (gb ws a9)) (kJ (dH ws a9).nodes m c).1) /\
      (∀m,wb (dH ws a9).nodes (dH ws a9).vars.length (mT (dH ws a9).nodes (dH ws a9).vars.length (gb ws a9)) m->qy (dH ws a9).vars (sE ws) (m.nd:Int)≠[])):=ab (by
     have h9:=uh HGS _ rfl;rw[uh KK,<-uh HWS]at h9;exact(h9 hvd).2)
    clear hM0 Vs hRn uI bA PW HGS KK HWS d9 c0 c2 c3 zV;go_wp2_with fail
    refine(uh zJ _).mono ?_;rintro e w3 ⟨rfl,rfl⟩;go_wp2_with fail
    refine(uh J5 _).mono ?_;rintro e w4 ⟨rfl,rfl⟩;go_wp2_with fail
    clear c0 zJ J5;go_loopg [10,12] 300 (λgn xv kv wx=>∃(k x:Nat),k+gn=300/\kv=.int .i64 k/\xv=.int .i64 x/\x<=1008/\Hid (∃m cv G,xJ w0 wx Y X Yr R Q s ws G m vv pv nv sv cv (.slice la st.length lc) (.slice lb ls.length ld)/\wb (dH ws a9).nodes (dH ws a9).vars.length (mT (dH ws a9).nodes (dH ws a9).vars.length (gb ws a9)) m/\zE k m))
    case atStart=>exact⟨0,xa,by omega,rfl,rfl,by omega,bR⟩
    case round =>
     clear bR;obtain⟨k,x,fC,rfl,rfl,hx,hI⟩:=hrel;obtain⟨H1,hH1⟩:∃H1,H1=gk:=⟨_,rfl⟩;obtain⟨m,cv2,G2,hR,hM,hC⟩:=uh hI;by_cases ar:k<300
     .have hd:decide ((k:Int)<(300:Int))=true:=(by simp;omega);have HS:=ab (Eu hR.ry hR.mc (by have:=hC.ln;omega));have HR:=ab hR;have HM:=ab hM;have HC:=ab hC;clear hR hM hC hI;go_wp2_with fail
      refine(uh HS).mono ?_;rintro e w5 ⟨g1,g2,rfl,-,b6⟩;unfold Wj;have J6:=ab ((uh HR).below b6);clear b6 HS HR;go_upto_region 11 with fail;obtain⟨W6,hW6⟩:∃W6,W6=w5.alloc (.cells #[Value.int .i64 (m.nd:Int),.int .i64 (m.wh:Int),.slice (some ⟨g1,0,none⟩) m.st.length m.st.length,.slice (some ⟨g2,0,none⟩) (2*m.cs.length) (2*m.cs.length)] 68):=⟨_,rfl⟩;have aT:=af w5 (.cells #[Value.int .i64 (m.nd:Int),.int .i64 (m.wh:Int),.slice (some ⟨g1,0,none⟩) m.st.length m.st.length,.slice (some ⟨g2,0,none⟩) (2*m.cs.length) (2*m.cs.length)] 68);have hBk:=Bk.new w5 68 [Value.int .i64 (m.nd:Int),.int .i64 (m.wh:Int),.slice (some ⟨g1,0,none⟩) m.st.length m.st.length,.slice (some ⟨g2,0,none⟩) (2*m.cs.length) (2*m.cs.length)];obtain⟨P,hP⟩:∃P,P=w5.heap.size:=⟨_,rfl⟩;have hR6:xJ w0 W6 Y X Yr R Q s ws G2 m vv pv nv sv cv2 (.slice la st.length lc) (.slice lb ls.length ld):=(by rw[hW6];exact(uh J6).below aT);have hB6:Bk W6 P 68 [Value.int .i64 (m.nd:Int),.int .i64 (m.wh:Int),.slice (some ⟨g1,0,none⟩) m.st.length m.st.length,.slice (some ⟨g2,0,none⟩) (2*m.cs.length) (2*m.cs.length)]:=(by rw[hW6,hP];exact hBk);have hPG:P ∉ G2:=λhm=>by have:=(uh J6).pg.lt P hm;omega
      have hPM:P ∉ cZ R sv cv2:=λhm=>by have:=(uh J6).mc.lt P hm;omega
      have aM:=(uh nK).2 m (uh HM);obtain⟨N,hN⟩:∃N,N=(qy (dH ws a9).vars (sE ws) (m.nd:Int)).length:=⟨_,rfl⟩;have hNl:N<=1000000000001:=(by rw[hN];exact(Tb (uh HA) (m.nd:Int)));have Vy:N≠0:=(by rw[hN];exact λe=>aM (length_eq_zero_iff.1 e));have HIV:Hid (∀W',Below W6.heap.size W6 W'->Calls prog 37 #[.pointer (some ⟨X,0,none⟩),.int .i64 (m.nd:Int)] W' λe w''=>∃va vc G',e=.returned (.slice va N vc)/\xJ w0 w'' Y X Yr R Q s ws G' m vv pv nv sv cv2 (.slice la st.length lc) (.slice lb ls.length ld)/\Bk w'' P 68 [Value.int .i64 (m.nd:Int),.int .i64 (m.wh:Int),.slice (some ⟨g1,0,none⟩) m.st.length m.st.length,.slice (some ⟨g2,0,none⟩) (2*m.cs.length) (2*m.cs.length)]):=ab (λW' m6=>by
       have hR':=hR6.below m6;refine(hR'.pg.invariant (uh HA) (m.nd:Int)).mono ?_;rintro e w'' ⟨v,rfl,hr,-,G',hk⟩;rw[<-hN]at hr;obtain⟨va,vc,rfl,-,-⟩:=ah hr;exact⟨va,vc,G',rfl,hR'.ask hk,(hB6.below m6).stp hk.st (λe=>hPG (by rw[mem_singleton.1 e];exact hR'.pg.mem))⟩)
      have c0:=hR6.dk.cell 0 rfl;have p0:=hB6.cell 0 rfl;rw[<-hW6,<-hP];clear aT hBk hR6 hB6 hPG hPM aM hW6 hP J6 hN;go_region_held3 (λW=>W.cell? ⟨Y,0,none⟩=some (.pointer (some ⟨X,0,none⟩))/\W.cell? ⟨P,0,none⟩=some (.int .i64 (m.nd:Int))) (first|(simp only[cell?_drew,c0,p0,and_self];done)|(simp only[u0,u1,and_self];done))
       (first
        |(go_at_call 37;refine(uh HIV _ (Below.refl _ _).drew).mono ?_;rintro e w7 ⟨va,vc,G3,rfl,hR7,hB7⟩;have u0:=hR7.dk.cell 0 rfl;have u1:=hB7.cell 0 rfl;have HR7:=ab hR7;have HB7:=ab hB7;clear hR7 hB7))
      all_goals
       have y1:=(uh HB7).cell 1 rfl;have dN:((N:Int)==(0:Int))=false:=(by simp;omega);clear HIV c0 p0 HB7;rcases(uh HM).wh with Ep|Ep
       .rw[Ep]at y1;have y1:w7.cell? ⟨P,1,none⟩=some (.int .i64 0):=y1;have Da:Hid (∀c:Int,1<=c->c<=20->Calls prog 38 #[.pointer (some ⟨Yr,0,none⟩),.int .i64 c] w7 λe w'=>∃ev:Int,e=.returned (.int .i64 ev)/\QR w0 w' Y X Yr R Q s ws vv pv nv sv (.slice la st.length lc) (.slice lb ls.length ld) k 1 ev):=ab (λc h1 h2=>Ju (uh nK).1 gz (uh HR7) (uh HM) (uh HC) ar c h1 h2);clear HR7 HM HC;have bx:(x:Int)<=1008:=(by omega);have by':(yb:Int)<=990:=by omega
        have bk:(k:Int)<=299:=(by omega);have e0:(0:Int)<=((x:Int)*31+(yb:Int)+(k:Int))%1009:=(by omega);go_wp2_with fail
        refine(uh Da _ (by omega) (by omega)).mono ?_;rintro e w8 ⟨ev,rfl,hIn⟩;have HI8:=ab hIn;clear hIn Da y1;go_wp2_with fail
        obtain⟨xn,hxn⟩:∃xn:Nat,((x:Int)*31+(yb:Int)+(k:Int))%1009=(xn:Int):=⟨(((x:Int)*31+(yb:Int)+(k:Int))%1009).toNat,by omega⟩;have Zd:xn<=1008:=(by omega);rw[hxn];clear hxn e0;go_loopg [15,16] 299 (λgm ev jv wx=>∃(j:Nat) (e2:Int),1<=j/\j+gm=300/\jv=.int .i64 j/\ev=.int .i64 e2/\Hid (QR w0 wx Y X Yr R Q s ws vv pv nv sv (.slice la st.length lc) (.slice lb ls.length ld) k j e2))
        case atStart=>exact⟨1,ev,by omega,by omega,rfl,rfl,HI8⟩
        case round =>
         clear HI8;obtain⟨j,e2,hj1,wU,rfl,rfl,hJ⟩:=hrel;obtain⟨H2,hH2⟩:∃H2,H2=gk:=⟨_,rfl⟩;rcases uh hJ with⟨rfl,m2,cv3,G4,hR9,DO,hC9⟩|⟨rfl,m2,cv3,G4,hR9,DO,hC9,hT9⟩
         .have HN:Hid (∃m cv G,xJ w0 wr Y X Yr R Q s ws G m vv pv nv sv cv (.slice la st.length lc) (.slice lb ls.length ld)/\wb (dH ws a9).nodes (dH ws a9).vars.length (mT (dH ws a9).nodes (dH ws a9).vars.length (gb ws a9)) m/\zE (k+1) m):=ab ⟨m2,cv3,G4,hR9,DO,hC9⟩;clear hR9 DO hC9 hJ;go_wp2_with fail
          go_roundg (H1-1)
          case rel=>exact⟨k+1,xn,by omega,by go_num,rfl,Zd,HN⟩
          case measure=>omega
         .by_cases hj3:j<300
          .have gx:decide ((j:Int)<(300:Int))=true:=(by simp;omega);have Ij:=ab (NG (uh nK).1 gz hR9 DO hC9 ar hj1 hj3 hT9);clear hR9 DO hC9 hT9 hJ;go_wp2_with fail
           refine(uh Ij).mono ?_;rintro e w9 ⟨ev9,rfl,hIn⟩;have HI9:=ab hIn;clear hIn Ij;go_wp2_with fail
           go_roundg (H2-1)
           case rel=>exact⟨j+1,ev9,by omega,by omega,by go_num,rfl,HI9⟩
           case measure=>omega
          .have uN:j=300:=(by omega);subst uN;exact(Uy hC9 hT9).elim
       .rw[Ep]at y1;have y1:w7.cell? ⟨P,1,none⟩=some (.int .i64 1):=y1;have HN:=ab (uh HR7).bw;clear HR7;go_wp2_with fail
        go_ret;exact⟨rfl,uh HN⟩
     .have hd:decide ((k:Int)<(300:Int))=false:=(by simp;omega);have HN:=ab hR.bw;clear hR hM hC hI;go_wp2_with fail
      go_ret;exact⟨rfl,uh HN⟩
   .have dv:(((sE ws).vd:Int) != (0:Int))=true:=(by simp;omega);have HN:=ab (uh PW).bw;clear uI bA PW HGS KK HWS d9 c0 c2 c3 zV;go_wp2_with fail
    go_ret;exact⟨rfl,uh HN⟩
 .have bA:Hid (∀W,Below w1.heap.size w1 W->Calls prog 34 #[.pointer (some ⟨X,0,none⟩),sa,ca] W λe w'=>e=.returned (.tuple #[.pointer none,.int .i64 (E:Int)])/\Below w1.heap.size w1 w'):=ab (λW hW=>by
   refine(hSt W hW).mono ?_;rintro e w' ⟨bP,⟨-,rfl⟩|⟨h0,-⟩⟩
   .exact⟨by rw[XX],hW.trans (bP.mono hW.size)⟩
   .exact absurd (XX.trans h0) hE0)
  have dE:((E:Int) != (0:Int))=true:=by simp;omega
  have cY:=ab aO;subst Nz I3;clear Be hp hY bZ kq tB Yw Ko hxc Ym hYX DZ aO SX Su hXc hcG hSt hY1 I7 CP H HV hE0 XX HGS KK HWS;go_upto_region 2 with fail;go_region_held3 (λW=>W.cell? ⟨Y,0,none⟩=some (.pointer (some ⟨X,0,none⟩))/\W.cell? ⟨Y,2,none⟩=some (.slice la st.length lc)/\W.cell? ⟨Y,3,none⟩=some (.slice lb ls.length ld)) (first|(simp only[cell?_drew,c0,c2,c3,and_self];done)|(simp only[u0,u2,u3,and_self];done))
   (first
    |(go_at_call 34;refine(uh bA _ (Below.refl _ _).drew).mono ?_;rintro e w2 ⟨rfl,ax⟩;have u0:=(ax.cell zV).trans c0;have u2:=(ax.cell zV).trans c2;have u3:=(ax.cell zV).trans c3;have bu:=ab ax;clear ax))
  all_goals
   have HN:Hid (Below w0.heap.size w0 w2):=ab ((uh cY).trans ((uh bu).mono (uh cY).size));clear cY bu bA c0 c2 c3;go_wp2_with fail
   go_ret;exact⟨rfl,uh HN⟩
end
