import Derived.Test.YtdpomdelmdofmaaGreatDoorUnd19
namespace Go.Proofs.YtdpomdelmdofmaaGreatDoor
open Go.Proofs.Tryz
section
open Go.RowKit Go.Maps
theorem KY{c:Sp.A}{k:Sp.By}:∀ {es:List (Lit×Sp.A)},Sp.Bk es->(Lit.string k,c)∈es->es.find? (fun p=>p.1.sameKey (.string k))=some (.string k,c)
 | [],_,h=>by cases h
 | y::r,⟨h1,h2⟩,h=>by
  obtain⟨h3,h4⟩:=List.pairwise_cons.1 h1;rcases List.mem_cons.1 h with e|h
  ·subst e;exact Fx (p:=fun p=>p.1.sameKey (.string k)) (WideAt.sameKey_self (show WideAt.IsKeyLit (Lit.string k,c).1 from trivial))
  ·have hne:y.1 ≠ .string k:=fun e=>by
    have hb:=h3 _ h;rw[e] at hb;have h9:bytesBefore k k=true:=hb;rw[WideAt.bytes_irrefl] at h9;cases h9
   rw[Gk (p:=fun p=>p.1.sameKey (.string k)) (by show ¬ (y.1.sameKey (.string k)=true);rw[sameKey_ne hne];decide)];exact KY ⟨h4,fun p hp=>h2 p (by simp[hp])⟩ h
theorem UX{f b g:Nat}{w:World}{u:Value}{al:List Sp.A}(h:Ae (f+1) w u (Sp.nd b g (.slice al []))):∃sl ps,VB w b 5 n0 [] sl (.map none)/\w.ownsRow 0 80 1 sl ps.length ps/\Al (Ae f w) ps al:=by
 obtain⟨b2,g2,x2,e,hu,h⟩:=h;unfold Sp.nd at e;injection e with e;injection e with e1 e;injection e with e2 e;injection e with e3 _;injection e1 with e1;injection e1 with _ e1;injection e2 with e2;injection e2 with _ e2;obtain rfl:b=b2:=by omega
 rcases h with⟨j,_,_,rfl,_⟩|⟨n,_,rfl,_⟩|⟨s,_,rfl,_⟩|⟨al2,sl,ps,rfl,hvb,ho,hs,ha⟩|⟨es,n,D,rfl,hvb,ho,hp⟩
 ·cases e3
 ·cases e3
 ·cases e3
 ·injection e3 with e3 _;subst e3;exact⟨sl,ps,hvb,ho,ha⟩
 ·cases e3
theorem DX{f i:Nat}{w:World}{u pth:Value}{n c:Sp.A}{key:Sp.By}(h:Ae (f+1) w u n)(hf:AV n i key c)(hk:key.length<=1048576) :
  Calls Tryz.prog 159 #[plV pth (Sp.blk n) key i] w fun e w'=>(∃y,e = .returned y/\Ae f w y c)/\Below w.heap.size w w':=by
 rcases hf with⟨b,g,al,rfl,h1⟩|⟨b,g,es,rfl,h1,h2⟩
 ·obtain⟨sl,ps,hvb,ho,ha⟩:=UX h;obtain⟨hi,e⟩:=List.getElem?_eq_some_iff.1 h1;have hi2:i<ps.length:=by rw[ha.length];exact hi
  refine (Ww (pth:=pth) (key:=key) hvb ho hi2).mono ?_;rintro x w' ⟨rfl,hb⟩;exact⟨⟨_,rfl,e▸ha.get i hi2 hi⟩,hb⟩
 ·obtain⟨_,D,hvb,ho,hp⟩:=DV h;have hfd:=KY h2 h1;have hh:Maps.has (.map D) (.string key)=true:=by
   rw[Pt.has _ hp];exact List.any_eq_true.2 ⟨_,h1,WideAt.sameKey_self (show WideAt.IsKeyLit (Lit.string key,c).1 from trivial)⟩
  obtain⟨j,k2,c2,x,_,_,e3,e4,e5⟩:=Pt.first (.string key) hp hh
  rw[hfd] at e3;obtain rfl:c=c2:=(Prod.mk.inj (Option.some.inj e3)).2;refine (O5 (pth:=pth) (i:=i) hk hvb ho (e4 _)).mono ?_;rintro x w' ⟨rfl,hb⟩;exact⟨⟨_,rfl,e5⟩,hb⟩
theorem Uq{f:Nat}{w:World}{u:Value}{n:Sp.A}(h:Ae (f+1) w u n):∀k∈Sp.fp (f+1) n,k∈Sp.own n \/ ∃d∈Sp.AL n,k∈Sp.fp f d:=by
 obtain⟨b,g,x,rfl,hv,h⟩:=h;rcases h with⟨j,_,_,rfl,h⟩|⟨n,_,rfl,h,hbd⟩|⟨s,_,rfl,h⟩|⟨al,sl,ps,rfl,_⟩|⟨es,n,D,rfl,_⟩
 ·intro k hk;exact Or.inl hk
 ·intro k hk;exact Or.inl hk
 ·intro k hk;exact Or.inl hk
 ·intro k hk;rw[Sp.AQ] at hk;rw[Sp.Fd,Sp.B2];rcases List.mem_cons.1 hk with rfl|hk
  ·exact Or.inl (by simp)
  ·rcases List.mem_append.1 hk with hk|hk
   ·exact Or.inl (List.mem_cons_of_mem _ hk)
   ·exact Or.inr (List.mem_flatMap.1 hk)
 ·intro k hk;rw[Sp.Bi] at hk;rw[Sp.Ga,Sp.BI];rcases List.mem_cons.1 hk with rfl|hk
  ·exact Or.inl (by simp)
  ·rcases List.mem_cons.1 hk with rfl|hk
   ·exact Or.inl (by simp)
   ·obtain⟨p,hp,hkp⟩:=List.mem_flatMap.1 hk;exact Or.inr ⟨p.2,List.mem_map.2 ⟨p,hp,rfl⟩,hkp⟩
theorem AV.apart{f i:Nat}{m c:Sp.A}{key:Sp.By}(hf:AV m i key c)(hn:(Sp.fp (f+1) m).Nodup):(∀d∈Sp.AL (Sp.Cb i key m),∀k∈Sp.fp f d,k ∉ Sp.fp f c)/\(∀k∈Sp.fp f c,k∈Sp.fp (f+1) m)/\(Sp.fp f c).Nodup/\c∈Sp.AL m:=by
 rcases hf with⟨b,g,al,rfl,h⟩|⟨b,g,es,rfl,h,hs⟩
 ·obtain⟨p1,_⟩:=E3 hn;have q:=EV (Sp.fp f) (Sp.FM h);rw[List.flatMap_cons] at q;obtain⟨n1,_,n3⟩:=List.nodup_append.1 (q.nodup_iff.1 p1);refine⟨fun d hd k hk hkc=>n3 k hkc k (List.mem_flatMap.2 ⟨d,hd,hk⟩) rfl,fun k hk=>?_,n1,?_⟩
  ·rw[Sp.AQ];exact List.mem_cons_of_mem _ (List.mem_append_right _ (q.mem_iff.2 (List.mem_append_left _ hk)))
  ·rw[Sp.B2];exact List.mem_of_getElem? h
 ·obtain⟨p1,_⟩:=Hn hn;have q:=(Sp.Rl hs h).flatMap_right (fun p=>Sp.fp f p.2);rw[List.flatMap_cons] at q;obtain⟨n1,_,n3⟩:=List.nodup_append.1 (q.nodup_iff.1 p1);refine⟨fun d hd k hk hkc=>?_,fun k hk=>?_,n1,?_⟩
  ·obtain⟨p,hp,rfl⟩:=List.mem_map.1 (show d∈(Sp.mdel (.string key) es).map Prod.snd from hd);exact n3 k hkc k (List.mem_flatMap.2 ⟨p,hp,hk⟩) rfl
  ·rw[Sp.Bi];exact List.mem_cons_of_mem _ (List.mem_cons_of_mem _ (q.mem_iff.2 (List.mem_append_left _ hk)))
  ·rw[Sp.BI];exact List.mem_map.2 ⟨_,h,rfl⟩
theorem AV.kids_set{i:Nat}{m c x:Sp.A}{key:Sp.By}(hf:AV m i key c):∀d∈Sp.AL (Sp.Bx i key x m),d=x\/d∈Sp.AL (Sp.Cb i key m):=by
 intro d hd;rcases hf with⟨b,g,al,rfl,h⟩|⟨b,g,es,rfl,h,hs⟩
 ·have hd2:d∈al.set i x:=hd;have:=(Sp.Lf x h).mem_iff.1 hd2;exact (List.mem_cons.1 this).imp id id
 ·obtain⟨p,hp,rfl⟩:=List.mem_map.1 (show d∈(Sp.mput (.string key) x es).map Prod.snd from hd);rcases List.mem_cons.1 ((Sp.Df (.string key) x es).mem_iff.1 hp) with rfl|hp
  ·exact Or.inl rfl
  ·exact Or.inr (show p.2∈(Sp.mdel (.string key) es).map Prod.snd from List.mem_map.2 ⟨p,hp,rfl⟩)
theorem K8{f:Nat}{p:List Nat}{w w':World}{u:Value}{T m n2 c:Sp.A}(hs:Sp.sub p T=some m)(hN:(Sp.fp (f+1+p.length) T).Nodup)(hm:Ae (f+1) w u m)(h2:Ae (f+1) w' u n2)(hc:c∈Sp.AL m)(hcm:∀k∈Sp.fp f c,k∈Sp.fp (f+1) m)(ho:∀k∈Sp.own n2,k∈Sp.own m\/w.heap.size<=k)
  (hk:∀d∈Sp.AL n2,∀k∈Sp.fp f d,k ∉ Sp.fp f c):∀k∈Sp.fp (f+1+p.length) (Sp.put p n2 T),k ∉ Sp.fp f c:=by
 intro k hkT hkc;obtain⟨rest,q1,q2⟩:=Sp.Gh (f:=f+1) hs;rcases List.mem_append.1 ((q2 n2).mem_iff.1 hkT) with h|h
 ·exact (List.nodup_append.1 (q1.nodup_iff.1 hN)).2.2 k h k (hcm k hkc) rfl
 ·rcases Uq h2 k h with h|⟨d,hd,h⟩
  ·rcases ho k h with h|h
   ·exact Kx hm (Sp.BB (f:=f+1) hs hN) hc k h hkc
   ·have:=hm.lt k (hcm k hkc);omega
  ·exact hk d hd k h hkc
end

section
open Go.RowKit Go.Maps
def B1(L:Nat)(D:Nat)(rv iv:Value)(ch:Bool)(Tb:Sp.A)(Mb:Nat->Prop)(wb:World)(T1:Sp.A)(M:Nat->Prop)(js:List Sp.Opn)(w w':World):Prop :=
 ∃jn' T' M',Sp.er L T'=Sp.er L T1/\Bm L w' D rv jn' iv ch Tb Mb wb T' M' js/\JEx M M' w w'
theorem Ae.kidAt{f:Nat}{w:World}{u:Value}{n c:Sp.A}(h:Ae (f+1) w u n)(hc:c∈Sp.AL n):∃y,Ae f w y c:=by
 obtain⟨j,hj,e⟩:=List.mem_iff_getElem.1 hc;exact Ae.at (f:=f) (p:=[j]) h (by rw[Sp.sub,List.getElem?_eq_getElem hj,e];rfl)
section
variable{f:Nat}{p:List Nat}{w:World}{D i:Nat}{rv jn iv:Value}{ch:Bool}{Tb T m c x:Sp.A}{Mb M:Nat->Prop}{wb:World}{js:List Sp.Opn}{key:Sp.By}{pa px py:Option Addr}{pl pc:Nat}{path:List Sp.By}
theorem Kb(hJ:Bm (f+1+p.length) w D rv jn iv ch Tb Mb wb T M js)(hs:Sp.sub p T=some m)(hf:G0 m i key)(hr:Ca m key)(hl:js.length<=1000000000)(hp:AM w (GA (f+1+p.length) Tb wb M) (.slice pa pl pc) path)
  (hc:Ae f w (.pointer px) c) (hcn:(Sp.fp f c).Nodup) (hcd:∀k∈Sp.fp f c,¬ M k/\k ∉ Sp.fp (f+1+p.length) T/\k≠D/\jn.ownBlock≠some k/\wb.heap.size<=k) :
  Calls Tryz.prog 205 #[.pointer (some ⟨D,0,none⟩),plV (.slice pa pl pc) (Sp.blk m) key i,.pointer px] w fun e w'=>e = .returned (.tuple #[]) /\
   B1 (f+1+p.length) D rv iv ch Tb Mb wb (Sp.put p (Sp.BS i key c m) T) M (js++[(1,path,.nil)]) w w':=by
 obtain⟨xs,cs,g1,g2,g3,g4⟩:=hJ.ex;obtain⟨u,hu⟩:=Ae.at (f:=f+1) hJ.tr hs;have hDl:=g1.lt;have hjl:=hJ.jlt;have hTl:=hJ.tr.lt;have hcl:=hc.lt;have hb:Below w.heap.size w (plW w pa pl pc (Sp.blk m) key i):=(Below.refl _ _).alloc (Nat.le_refl _) _;have hbs:(plW w pa pl pc (Sp.blk m) key i).heap.size=w.heap.size+1:=by simp
 have hnew:AN (plW w pa pl pc (Sp.blk m) key i) w.heap.size (.slice pa pl pc) (Sp.blk m) key i:=heap_alloc_new w _;have hown:∀k∈Sp.own m,k∈Sp.fp (f+1+p.length) T:=fun k hk=>Sp.Dd hs k (Hm hu k hk);have hZ:∀k∈Sp.fp f c,k<(plW w pa pl pc (Sp.blk m) key i).heap.size/\k ∉ Sp.fp (f+1+p.length) T:=fun k hk=>⟨by have:=hcl k hk;omega,(hcd k hk).2.1⟩
 refine (Ok (D:=D) (rv:=rv) (iv:=iv) (ch:=ch) (xs:=xs) (Q:=fun w2=>∃n2,(Sp.er (f+1) n2=Sp.er (f+1) (Sp.BS i key c m)/\Sp.AL n2=Sp.AL (Sp.BS i key c m) /\ ∀k∈Sp.own n2,k∈Sp.own m\/(plW w pa pl pc (Sp.blk m) key i).heap.size<=k)/\DJ f (plW w pa pl pc (Sp.blk m) key i) w2 u m n2 (fun k=>k∈Sp.fp f c)) hl hJ.jD
  (IP (hu.bel hb) (Sp.BB (f:=f+1) hs hJ.nd) (hf.at (c:=c) hr).1 (hc.bel hb) hcn (fun k hk hm=>(hcd k hk).2.1 (Sp.Dd hs k hm))) ?_).mono ?_
 ·rintro w2 ⟨n2,_,hE⟩;have hold:∀k,k<w.heap.size+1->k ∉ Sp.fp (f+1+p.length) T->w2.heap[k]? = (plW w pa pl pc (Sp.blk m) key i).heap[k]?:=fun k hk hn=>hE.kept.block k (by omega) (fun h=>hn (hown k h));refine⟨(hold _ (by omega) (fun h=>by have:=hTl _ h;omega)).trans hnew,g1.kept ((hold D (by omega) hJ.dD.1).trans (hb.block D hDl)),BG g2 fun g hg=>(hold g (by have:=hjl g hg;omega) (hJ.jM g hg).2).trans (hb.block g (hjl g hg))⟩
 ·rintro e w4 ⟨w2,⟨n2,⟨e2,_,_⟩,hE⟩,hL⟩;obtain⟨t1,t2,t3,t4⟩:=Kd (hJ.tr.bel hb) hs hJ.nd (hu.bel hb) hE hZ;have hsz:=t4.size;have k02:As (fun k=>k∈Sp.fp (f+1+p.length) T) w w2:=(As.of_below hb).trans (F':=fun k=>k∈Sp.fp (f+1+p.length) T) t4 fun k _ h=>h;have hq2:AN w2 w.heap.size (.slice pa pl pc) (Sp.blk m) key i:=(t4.block _ (by omega) (fun h=>by have:=hTl _ h;omega)).trans hnew;obtain⟨rfl,jn',hJ',hX⟩:=hJ.lay (T1:=Sp.put p (Sp.BS i key c m) T) (M':=fun k=>M k\/k=w.heap.size) (o:=(1,path,.nil)) g3 g4 k02 t1 t2 (fun hm=>by
    rcases t3 D hm with h|h|h
    ·exact hJ.dD.1 h
    ·exact (hcd D h).2.2.1 rfl
    ·omega) (fun g hg hm=>by
    rcases t3 g hm with h|h|h
    ·exact (hJ.jM g hg).2 h
    ·exact (hcd g h).2.2.2.1 hg
    ·have:=hjl g hg;omega) (fun k hk=>Or.inl hk) (fun k hk=>by
    rcases hk with hk|rfl
    ·have h1:=hJ.low k hk;refine⟨by omega,fun hm=>?_,fun e=>hJ.dD.2 (e▸hk),fun e=>(hJ.jM k e).1 hk⟩;rcases t3 k hm with h|h|h
     ·exact h1.2 h
     ·exact (hcd k h).1 hk
     ·omega
    ·refine⟨by omega,fun hm=>?_,by omega,fun e=>by have:=hjl _ e;omega⟩;rcases t3 _ hm with h|h|h
     ·have:=hTl _ h;omega
     ·have:=hcl _ h;omega
     ·omega) hL ⟨rfl,show (1:Nat)<3 by decide,hp.move fun k hk hkl=>⟨k02.block k hkl (hJ.low k hk.1).2,Or.inl hk.1,hk.2⟩,rfl,Or.inl ⟨rfl,rfl⟩⟩ (by rw[Sp.BQ p (f+1) n2 hs,e2,Sp.BQ p (f+1) _ hs]) (fun h1 h2=>On hJ.tr hs hf hr ((h2 _ (Or.inr rfl)).trans hq2) (Or.inr rfl) h1) Qg (fun k hk=>by
    rcases t3 k hk with h|h|h
    ·exact hJ.up.2 k h
    ·exact Or.inl (hcd k h).2.2.2.2
    ·exact Or.inl (by have:=hJ.up.1;omega))
  exact⟨rfl,jn',_,_,by rw[Sp.BQ p (f+1) n2 hs,e2,Sp.BQ p (f+1) _ hs],hJ',hX⟩
theorem JM(hJ:Bm (f+1+p.length) w D rv jn iv ch Tb Mb wb T M js)(hs:Sp.sub p T=some m)(hf:AV m i key c)(hr:Ca m key)(hl:js.length<=1000000000)(hp:AM w (GA (f+1+p.length) Tb wb M) (.slice pa pl pc) path)(hft:f<=top) :
  Calls Tryz.prog 199 #[.pointer (some ⟨D,0,none⟩),plV (.slice pa pl pc) (Sp.blk m) key i] w fun e w'=>e = .returned (.tuple #[]) /\
   B1 (f+1+p.length) D rv iv ch Tb Mb wb (Sp.put p (Sp.Cb i key m) T) M (js++[(0,path,Sp.str f c)]) w w' /\ ∀y,Ae f w y c->Ae f w' y c:=by
 obtain⟨xs,cs,g1,g2,g3,g4⟩:=hJ.ex;obtain⟨u,hu⟩:=Ae.at (f:=f+1) hJ.tr hs;obtain⟨a1,a2,a3,a4⟩:=hf.apart (Sp.BB (f:=f+1) hs hJ.nd);obtain⟨yv,hc⟩:=hu.kidAt a4;obtain⟨yb,rfl,_⟩:=hc.ptr;have hDl:=g1.lt;have hjl:=hJ.jlt;have hTl:=hJ.tr.lt;have hcT:∀k∈Sp.fp f c,k∈Sp.fp (f+1+p.length) T:=fun k hk=>Sp.Dd hs k (a2 k hk);have hb:Below w.heap.size w (plW w pa pl pc (Sp.blk m) key i):=(Below.refl _ _).alloc (Nat.le_refl _) _;have hbs:(plW w pa pl pc (Sp.blk m) key i).heap.size=w.heap.size+1:=by simp
 have hnew:AN (plW w pa pl pc (Sp.blk m) key i) w.heap.size (.slice pa pl pc) (Sp.blk m) key i:=heap_alloc_new w _;have hown:∀k∈Sp.own m,k∈Sp.fp (f+1+p.length) T:=fun k hk=>Sp.Dd hs k (Hm hu k hk);have hV:∀w2,Below (w.heap.size+1) (plW w pa pl pc (Sp.blk m) key i) w2->Below w.heap.size w (xW w2 (some ⟨yb,0,none⟩)):=fun w2 h2=>by
  have h3:Below w.heap.size w w2:=⟨h2.os.trans hb.os,h2.tape.trans hb.tape,h2.output.trans hb.output,by have:=h2.size;omega,fun k hk=>(h2.block k (by omega)).trans (hb.block k hk)⟩
  exact h3.alloc (by have:=h2.size;omega) _
 have hVs:∀w2,(xW w2 (some ⟨yb,0,none⟩)).heap.size=w2.heap.size+1:=fun w2=>by simp
 refine (Og (D:=D) (rv:=rv) (iv:=iv) (ch:=ch) (xs:=xs) (y:=some ⟨yb,0,none⟩) (Q:=fun w2 w3=>∃n2,(Sp.er (f+1) n2=Sp.er (f+1) (Sp.Cb i key m)/\Sp.AL n2=Sp.AL (Sp.Cb i key m) /\ ∀k∈Sp.own n2,k∈Sp.own m\/(xW w2 (some ⟨yb,0,none⟩)).heap.size<=k)/\DJ f (xW w2 (some ⟨yb,0,none⟩)) w3 u m n2 (fun _=>False)) hl hJ.jD
  ((DX (hu.bel hb) hf hr.2).mono ?_) (fun w2 hb2=>IG (hu.bel (hV w2 hb2)) (Sp.BB (f:=f+1) hs hJ.nd) (hf.at hr).1) ?_).mono ?_
 ·rintro e w' ⟨⟨y,rfl,hy⟩,hb2⟩;obtain rfl:=hy.uniq hc;exact⟨rfl,hbs▸hb2⟩
 ·rintro w2 w3 hb2 ⟨n2,_,hE⟩;have hs2:=hb2.size;have hVs2:=hVs w2;have hold:∀k,k<w2.heap.size+1->k ∉ Sp.fp (f+1+p.length) T->w3.heap[k]? = (xW w2 (some ⟨yb,0,none⟩)).heap[k]?:=fun k hk hn=>hE.kept.block k (by omega) (fun h=>hn (hown k h));refine⟨((hold _ (by omega) (fun h=>by have:=hTl _ h;omega)).trans (Below.heap_alloc w2 _ _ (by omega))).trans ((hb2.block _ (by omega)).trans hnew),(hold _ (by omega) (fun h=>by have:=hTl _ h;omega)).trans (heap_alloc_new w2 _),g1.kept ((hold D (by omega) hJ.dD.1).trans ((hV w2 hb2).block D hDl)),BG g2 fun g hg=>(hold g (by have:=hjl g hg;omega) (hJ.jM g hg).2).trans ((hV w2 hb2).block g (hjl g hg))⟩
 ·rintro e w4 ⟨w2,w3,hb2,⟨n2,⟨e2,e3,e4⟩,hE⟩,hL⟩;have hs2:=hb2.size;have hVs2:=hVs w2;obtain⟨t1,t2,t3,t4⟩:=Kd (hJ.tr.bel (hV w2 hb2)) hs hJ.nd (hu.bel (hV w2 hb2)) hE (fun k hk=>hk.elim);have hsz:=t4.size;have k02:As (fun k=>k∈Sp.fp (f+1+p.length) T) w w3:=(As.of_below (hV w2 hb2)).trans (F':=fun k=>k∈Sp.fp (f+1+p.length) T) t4 fun k _ h=>h;have hq2:AN w3 w.heap.size (.slice pa pl pc) (Sp.blk m) key i:=((t4.block _ (by omega) (fun h=>by have:=hTl _ h;omega)).trans (Below.heap_alloc w2 _ _ (by omega))).trans ((hb2.block _ (by omega)).trans hnew);have hx2:F1 w3 w2.heap.size (some ⟨yb,0,none⟩):=(t4.block _ (by omega) (fun h=>by have:=hTl _ h;omega)).trans (heap_alloc_new w2 _);have hap:∀k∈Sp.fp (f+1+p.length) (Sp.put p n2 T),k ∉ Sp.fp f c:=K8 hs hJ.nd (hu.bel (hV w2 hb2)) hE.tr a4 a2 e4 (fun d hd k hk=>a1 d (e3▸hd) k hk);have hc3:Ae f w3 (.pointer (some ⟨yb,0,none⟩)) c:=(hc.bel (hV w2 hb2)).move fun k hk=>hE.kept.block k (by have:=hTl k (hcT k hk);omega) (fun ho=>Kx hu (Sp.BB (f:=f+1) hs hJ.nd) a4 k ho hk);obtain⟨r1,r2,r3⟩:=hc3.up hft;obtain⟨_,_,_,_,_,_,hk4⟩:=id hL;have hc4:Ae f w4 (.pointer (some ⟨yb,0,none⟩)) c:=hc3.move fun k hk=>hk4.block k (by have:=hTl k (hcT k hk);omega) (fun h=>h.elim (fun e=>hJ.dD.1 (e▸hcT k hk)) fun e=>(hJ.jM k e).2 (hcT k hk));obtain⟨rfl,jn',hJ',hX⟩:=hJ.lay (T1:=Sp.put p (Sp.Cb i key m) T) (M':=fun k=>M k\/k=w.heap.size\/k=w2.heap.size\/k∈Sp.fp f c) (o:=(0,path,Sp.str f c)) g3 g4 k02 t1 t2 (fun hm=>by
    rcases t3 D hm with h|h|h
    ·exact hJ.dD.1 h
    ·exact h
    ·omega) (fun g hg hm=>by
    rcases t3 g hm with h|h|h
    ·exact (hJ.jM g hg).2 h
    ·exact h.elim
    ·have:=hjl g hg;omega) (fun k hk=>Or.inl hk) (fun k hk=>by
    rcases hk with hk|rfl|rfl|hk
    ·have h1:=hJ.low k hk;refine⟨by omega,fun hm=>?_,fun e=>hJ.dD.2 (e▸hk),fun e=>(hJ.jM k e).1 hk⟩;rcases t3 k hm with h|h|h
     ·exact h1.2 h
     ·exact h
     ·omega
    ·refine⟨by omega,fun hm=>?_,by omega,fun e=>by have:=hjl _ e;omega⟩;rcases t3 _ hm with h|h|h
     ·have:=hTl _ h;omega
     ·exact h.elim
     ·omega
    ·refine⟨by omega,fun hm=>?_,by omega,fun e=>by have:=hjl _ e;omega⟩;rcases t3 _ hm with h|h|h
     ·have:=hTl _ h;omega
     ·exact h.elim
     ·omega
    ·refine⟨by have:=hTl k (hcT k hk);omega,fun hm=>hap k hm hk,fun e=>hJ.dD.1 (e▸hcT k hk),fun e=>(hJ.jM k e).2 (hcT k hk)⟩) hL ⟨rfl,show (0:Nat)<3 by decide,hp.move fun k hk hkl=>⟨k02.block k hkl (hJ.low k hk.1).2,Or.inl hk.1,hk.2⟩,rfl,Or.inr ⟨show (0:Nat)≠1 by decide,r3▸r1.rep fun k hk=>⟨Or.inr (Or.inr (Or.inr (r2▸hk))),hJ.up.2 k (hcT k (r2▸hk))⟩⟩⟩ (by rw[Sp.BQ p (f+1) n2 hs,e2,Sp.BQ p (f+1) _ hs])
    (fun h1 h2=>Ol hJ.tr hs hf hr ((h2 _ (Or.inr (Or.inl rfl))).trans hq2) (Or.inr (Or.inl rfl)) ((h2 _ (Or.inr (Or.inr (Or.inl rfl)))).trans hx2) (Or.inr (Or.inr (Or.inl rfl))) (hc3.move fun k hk=>h2 k (Or.inr (Or.inr (Or.inr hk)))) a3 (fun k hk=>⟨Or.inr (Or.inr (Or.inr hk)),fun hm=>(hJ.low k hm).2 (hcT k hk)⟩) h1) Qf (fun k hk=>by
    rcases t3 k hk with h|h|h
    ·exact hJ.up.2 k h
    ·exact h.elim
    ·exact Or.inl (by have:=hJ.up.1;omega))
  refine⟨rfl,⟨jn',_,_,by rw[Sp.BQ p (f+1) n2 hs,e2,Sp.BQ p (f+1) _ hs],hJ',hX⟩,fun y hy=>?_⟩;obtain rfl:=hy.uniq hc;exact hc4
theorem Mr(hJ:Bm (f+1+p.length) w D rv jn iv ch Tb Mb wb T M js)(hs:Sp.sub p T=some m)(hf:AV m i key c)(hr:Ca m key)(hl:js.length<=1000000000)(hp:AM w (GA (f+1+p.length) Tb wb M) (.slice pa pl pc) path)(hft:f<=top)(hx:Ae f w (.pointer px) x)(hxn:(Sp.fp f x).Nodup)(hxd:∀k∈Sp.fp f x,¬ M k/\k ∉ Sp.fp (f+1+p.length) T/\k≠D/\jn.ownBlock≠some k/\wb.heap.size<=k) :
  Calls Tryz.prog 200 #[.pointer (some ⟨D,0,none⟩),plV (.slice pa pl pc) (Sp.blk m) key i,.pointer px] w fun e w'=>e = .returned (.tuple #[]) /\
   B1 (f+1+p.length) D rv iv ch Tb Mb wb (Sp.put p (Sp.Bx i key x m) T) M (js++[(2,path,Sp.str f c)]) w w':=by
 obtain⟨xs,cs,g1,g2,g3,g4⟩:=hJ.ex;obtain⟨u,hu⟩:=Ae.at (f:=f+1) hJ.tr hs;obtain⟨a1,a2,a3,a4⟩:=hf.apart (Sp.BB (f:=f+1) hs hJ.nd);obtain⟨yv,hc⟩:=hu.kidAt a4;obtain⟨yb,rfl,_⟩:=hc.ptr;have hDl:=g1.lt;have hjl:=hJ.jlt;have hTl:=hJ.tr.lt;have hcT:∀k∈Sp.fp f c,k∈Sp.fp (f+1+p.length) T:=fun k hk=>Sp.Dd hs k (a2 k hk);have hb:Below w.heap.size w (plW w pa pl pc (Sp.blk m) key i):=(Below.refl _ _).alloc (Nat.le_refl _) _;have hbs:(plW w pa pl pc (Sp.blk m) key i).heap.size=w.heap.size+1:=by simp
 have hnew:AN (plW w pa pl pc (Sp.blk m) key i) w.heap.size (.slice pa pl pc) (Sp.blk m) key i:=heap_alloc_new w _;have hown:∀k∈Sp.own m,k∈Sp.fp (f+1+p.length) T:=fun k hk=>Sp.Dd hs k (Hm hu k hk);have hV:∀w2,Below (w.heap.size+1) (plW w pa pl pc (Sp.blk m) key i) w2->Below w.heap.size w (xW w2 (some ⟨yb,0,none⟩)):=fun w2 h2=>by
  have h3:Below w.heap.size w w2:=⟨h2.os.trans hb.os,h2.tape.trans hb.tape,h2.output.trans hb.output,by have:=h2.size;omega,fun k hk=>(h2.block k (by omega)).trans (hb.block k hk)⟩
  exact h3.alloc (by have:=h2.size;omega) _
 have hVs:∀w2,(xW w2 (some ⟨yb,0,none⟩)).heap.size=w2.heap.size+1:=fun w2=>by simp
 refine (SA (D:=D) (rv:=rv) (iv:=iv) (ch:=ch) (xs:=xs) (y:=some ⟨yb,0,none⟩) (Q:=fun w2 w3=>∃n2,(Sp.er (f+1) n2=Sp.er (f+1) (Sp.Bx i key x m)/\Sp.AL n2=Sp.AL (Sp.Bx i key x m) /\ ∀k∈Sp.own n2,k∈Sp.own m\/(xW w2 (some ⟨yb,0,none⟩)).heap.size<=k)/\DJ f (xW w2 (some ⟨yb,0,none⟩)) w3 u m n2 (fun k=>k∈Sp.fp f x)) hl hJ.jD
  ((DX (hu.bel hb) hf hr.2).mono ?_) (fun w2 hb2=>MB (hu.bel (hV w2 hb2)) (Sp.BB (f:=f+1) hs hJ.nd) (hf.at hr).1 (hx.bel (hV w2 hb2)) hxn (fun k hk hm=>(hxd k hk).2.1 (Sp.Dd hs k hm))) ?_).mono ?_
 ·rintro e w' ⟨⟨y,rfl,hy⟩,hb2⟩;obtain rfl:=hy.uniq hc;exact⟨rfl,hbs▸hb2⟩
 ·rintro w2 w3 hb2 ⟨n2,_,hE⟩;have hs2:=hb2.size;have hVs2:=hVs w2;have hold:∀k,k<w2.heap.size+1->k ∉ Sp.fp (f+1+p.length) T->w3.heap[k]? = (xW w2 (some ⟨yb,0,none⟩)).heap[k]?:=fun k hk hn=>hE.kept.block k (by omega) (fun h=>hn (hown k h));refine⟨((hold _ (by omega) (fun h=>by have:=hTl _ h;omega)).trans (Below.heap_alloc w2 _ _ (by omega))).trans ((hb2.block _ (by omega)).trans hnew),(hold _ (by omega) (fun h=>by have:=hTl _ h;omega)).trans (heap_alloc_new w2 _),g1.kept ((hold D (by omega) hJ.dD.1).trans ((hV w2 hb2).block D hDl)),BG g2 fun g hg=>(hold g (by have:=hjl g hg;omega) (hJ.jM g hg).2).trans ((hV w2 hb2).block g (hjl g hg))⟩
 ·rintro e w4 ⟨w2,w3,hb2,⟨n2,⟨e2,e3,e4⟩,hE⟩,hL⟩;have hs2:=hb2.size;have hVs2:=hVs w2;obtain⟨t1,t2,t3,t4⟩:=Kd (hJ.tr.bel (hV w2 hb2)) hs hJ.nd (hu.bel (hV w2 hb2)) hE (fun k hk=>⟨by have:=hx.lt k hk;have:=(hV w2 hb2).size;omega,(hxd k hk).2.1⟩);have hsz:=t4.size;have k02:As (fun k=>k∈Sp.fp (f+1+p.length) T) w w3:=(As.of_below (hV w2 hb2)).trans (F':=fun k=>k∈Sp.fp (f+1+p.length) T) t4 fun k _ h=>h;have hq2:AN w3 w.heap.size (.slice pa pl pc) (Sp.blk m) key i:=((t4.block _ (by omega) (fun h=>by have:=hTl _ h;omega)).trans (Below.heap_alloc w2 _ _ (by omega))).trans ((hb2.block _ (by omega)).trans hnew);have hx2:F1 w3 w2.heap.size (some ⟨yb,0,none⟩):=(t4.block _ (by omega) (fun h=>by have:=hTl _ h;omega)).trans (heap_alloc_new w2 _);have hap:∀k∈Sp.fp (f+1+p.length) (Sp.put p n2 T),k ∉ Sp.fp f c:=K8 hs hJ.nd (hu.bel (hV w2 hb2)) hE.tr a4 a2 e4 (fun d hd k hk=>by
   rw[e3] at hd;rcases hf.kids_set d hd with rfl|hd
   ·exact fun hm=>(hxd k hk).2.1 (hcT k hm)
   ·exact a1 d hd k hk)
  have hc3:Ae f w3 (.pointer (some ⟨yb,0,none⟩)) c:=(hc.bel (hV w2 hb2)).move fun k hk=>hE.kept.block k (by have:=hTl k (hcT k hk);omega) (fun ho=>Kx hu (Sp.BB (f:=f+1) hs hJ.nd) a4 k ho hk);obtain⟨r1,r2,r3⟩:=hc3.up hft;obtain⟨rfl,jn',hJ',hX⟩:=hJ.lay (T1:=Sp.put p (Sp.Bx i key x m) T) (M':=fun k=>M k\/k=w.heap.size\/k=w2.heap.size\/k∈Sp.fp f c) (o:=(2,path,Sp.str f c)) g3 g4 k02 t1 t2 (fun hm=>by
    rcases t3 D hm with h|h|h
    ·exact hJ.dD.1 h
    ·exact (hxd D h).2.2.1 rfl
    ·omega) (fun g hg hm=>by
    rcases t3 g hm with h|h|h
    ·exact (hJ.jM g hg).2 h
    ·exact (hxd g h).2.2.2.1 hg
    ·have:=hjl g hg;omega) (fun k hk=>Or.inl hk) (fun k hk=>by
    rcases hk with hk|rfl|rfl|hk
    ·have h1:=hJ.low k hk;refine⟨by omega,fun hm=>?_,fun e=>hJ.dD.2 (e▸hk),fun e=>(hJ.jM k e).1 hk⟩;rcases t3 k hm with h|h|h
     ·exact h1.2 h
     ·exact (hxd k h).1 hk
     ·omega
    ·refine⟨by omega,fun hm=>?_,by omega,fun e=>by have:=hjl _ e;omega⟩;rcases t3 _ hm with h|h|h
     ·have:=hTl _ h;omega
     ·exact (by have:=hx.lt _ h;omega)
     ·omega
    ·refine⟨by omega,fun hm=>?_,by omega,fun e=>by have:=hjl _ e;omega⟩;rcases t3 _ hm with h|h|h
     ·have:=hTl _ h;omega
     ·exact (by have:=hx.lt _ h;omega)
     ·omega
    ·refine⟨by have:=hTl k (hcT k hk);omega,fun hm=>hap k hm hk,fun e=>hJ.dD.1 (e▸hcT k hk),fun e=>(hJ.jM k e).2 (hcT k hk)⟩) hL ⟨rfl,show (2:Nat)<3 by decide,hp.move fun k hk hkl=>⟨k02.block k hkl (hJ.low k hk.1).2,Or.inl hk.1,hk.2⟩,rfl,Or.inr ⟨show (2:Nat)≠1 by decide,r3▸r1.rep fun k hk=>⟨Or.inr (Or.inr (Or.inr (r2▸hk))),hJ.up.2 k (hcT k (r2▸hk))⟩⟩⟩ (by rw[Sp.BQ p (f+1) n2 hs,e2,Sp.BQ p (f+1) _ hs])
    (fun h1 h2=>SP hJ.tr hs hf hr ((h2 _ (Or.inr (Or.inl rfl))).trans hq2) (Or.inr (Or.inl rfl)) ((h2 _ (Or.inr (Or.inr (Or.inl rfl)))).trans hx2) (Or.inr (Or.inr (Or.inl rfl))) (hc3.move fun k hk=>h2 k (Or.inr (Or.inr (Or.inr hk)))) a3 (fun k hk=>⟨Or.inr (Or.inr (Or.inr hk)),fun hm=>(hJ.low k hm).2 (hcT k hk)⟩) h1) UA (fun k hk=>by
    rcases t3 k hk with h|h|h
    ·exact hJ.up.2 k h
    ·exact Or.inl (hxd k h).2.2.2.2
    ·exact Or.inl (by have:=hJ.up.1;omega))
  exact⟨rfl,jn',_,_,by rw[Sp.BQ p (f+1) n2 hs,e2,Sp.BQ p (f+1) _ hs],hJ',hX⟩
end
end

section
open Go.RowKit Go.Maps
section
variable{w:World}{D b i:Nat}{key:Sp.By}{pa x:Option Addr}{pl pc:Nat}
theorem SC{y:Addr}{Q:World->Prop}(hG:Calls Tryz.prog 159 #[plV (.slice pa pl pc) b key i] (plW w pa pl pc b key i) fun e w'=>e = .returned (.pointer (some y))/\Below (w.heap.size+1) (plW w pa pl pc b key i) w')
  (hC:∀w2,Below (w.heap.size+1) (plW w pa pl pc b key i) w2->Calls Tryz.prog 200 #[.pointer (some ⟨D,0,none⟩),plV (.slice pa pl pc) b key i,.pointer x] w2 fun e w'=>e = .returned (.tuple #[])/\Q w') :
  Calls Tryz.prog 160 #[.pointer (some ⟨D,0,none⟩),plV (.slice pa pl pc) b key i,.pointer x] w fun e w'=>e = .returned (.tuple #[])/\Q w':=by
 have HG:=Ab hG;have HC:=Ab hC;have hbx:=heap_alloc_new w (.cells #[.slice pa pl pc,.pointer (some ⟨b,0,none⟩),.string ⟨key.toArray⟩,.int .i64 i] 185);have HP:=Ab (show AN (plW w pa pl pc b key i) w.heap.size (.slice pa pl pc) b key i from hbx);clear hG hC hbx
 go_enter func160,ntmps160
 go_wp2_with (fail);refine (Aa HG).mono ?_
 rintro e w2 ⟨rfl,hb⟩;have hp2:AN w2 w.heap.size (.slice pa pl pc) b key i:=(hb.block _ (by omega)).trans (Aa HP);have e0:=hp2.c0;have e1:=hp2.c1;have e2:=hp2.c2;have e3:=hp2.c3;have HB:=Ab hb;clear hb hp2
 go_wp2_with (fail);refine (Aa HC w2 (Aa HB)).mono ?_
 rintro e w3 ⟨rfl,hq⟩
 go_wp2_with (fail);exact bodyPost_ret (v:=.tuple #[]) (by simp[results,results160,go_sem]) rfl ⟨rfl,hq⟩
theorem Oh{Q:World->Prop}(hG:Calls Tryz.prog 159 #[plV (.slice pa pl pc) b key i] (plW w pa pl pc b key i) fun e w'=>e = .returned (.pointer none)/\Below (w.heap.size+1) (plW w pa pl pc b key i) w')
  (hC:∀w2,Below (w.heap.size+1) (plW w pa pl pc b key i) w2->Calls Tryz.prog 205 #[.pointer (some ⟨D,0,none⟩),plV (.slice pa pl pc) b key i,.pointer x] w2 fun e w'=>e = .returned (.tuple #[])/\Q w') :
  Calls Tryz.prog 160 #[.pointer (some ⟨D,0,none⟩),plV (.slice pa pl pc) b key i,.pointer x] w fun e w'=>e = .returned (.tuple #[])/\Q w':=by
 have HG:=Ab hG;have HC:=Ab hC;have hbx:=heap_alloc_new w (.cells #[.slice pa pl pc,.pointer (some ⟨b,0,none⟩),.string ⟨key.toArray⟩,.int .i64 i] 185);have HP:=Ab (show AN (plW w pa pl pc b key i) w.heap.size (.slice pa pl pc) b key i from hbx);clear hG hC hbx
 go_enter func160,ntmps160
 go_wp2_with (fail);refine (Aa HG).mono ?_
 rintro e w2 ⟨rfl,hb⟩;have hp2:AN w2 w.heap.size (.slice pa pl pc) b key i:=(hb.block _ (by omega)).trans (Aa HP);have e0:=hp2.c0;have e1:=hp2.c1;have e2:=hp2.c2;have e3:=hp2.c3;have HB:=Ab hb;clear hb hp2
 go_wp2_with (fail);refine (Aa HC w2 (Aa HB)).mono ?_
 rintro e w3 ⟨rfl,hq⟩
 go_wp2_with (fail);exact bodyPost_end (results_none rfl _ _ _) rfl ⟨rfl,hq⟩
end
theorem Jo{f b g i:Nat}{w:World}{u pth:Value}{es:List (Lit×Sp.A)}{key:Sp.By}(h:Ae (f+1) w u (Sp.nd b g (.map es)))(hf:∀p∈es,p.1≠Lit.string key)(hk:key.length<=1048576) :
  Calls Tryz.prog 159 #[plV pth b key i] w fun e w'=>e = .returned (.pointer none)/\Below w.heap.size w w':=by
 obtain⟨_,D,hvb,ho,hp⟩:=DV h;have hh:Maps.has (.map D) (.string key)=false:=by
  rw[Pt.has _ hp];refine Bool.eq_false_iff.2 fun ht=>?_;obtain⟨p,h1,h2⟩:=List.any_eq_true.1 (show (es.any fun p=>p.1.sameKey (.string key))=true from ht);rw[sameKey_ne (hf p h1)] at h2;cases h2
 have hx:(DataW.map D).atKey (.string key) (.held (.pointer none)) = .held (.pointer none):=by
  have h3:D.find? (fun p=>p.1.sameKey (.string key))=none:=by
   rw[List.find?_eq_none];intro p hp ht;have h4:(D.any fun p=>p.1.sameKey (.string key))=true:=List.any_eq_true.2 ⟨p,hp,ht⟩;have h5:(D.any fun p=>p.1.sameKey (.string key))=false:=hh;rw[h5] at h4;cases h4
  rw[B8,h3]
 exact O5 (pth:=pth) (i:=i) hk hvb ho hx
theorem GW{w w2:World}{o:Obj}(h:Below (w.heap.size+1) (w.alloc o) w2):Below w.heap.size w w2:=by
 have hb:Below w.heap.size w (w.alloc o):=(Below.refl _ _).alloc (Nat.le_refl _) _;exact⟨h.os.trans hb.os,h.tape.trans hb.tape,h.output.trans hb.output,Nat.le_trans hb.size h.size,fun k hk=>(h.block k (by omega)).trans (hb.block k hk)⟩
theorem Bm.bel{L:Nat}{w w':World}{D:Nat}{rv jn iv:Value}{ch:Bool}{Tb T:Sp.A}{Mb M:Nat->Prop}{wb:World}{js:List Sp.Opn}(h:Bm L w D rv jn iv ch Tb Mb wb T M js)(hb:Below w.heap.size w w') :
  Bm L w' D rv jn iv ch Tb Mb wb T M js/\JEx M M w w':=by
 have h1:=h.grow hb (fun _=>False) (fun _ hx=>hx.elim);simpa using h1
section
variable{f:Nat}{p:List Nat}{w:World}{D i:Nat}{rv jn iv:Value}{ch:Bool}{Tb T m c x:Sp.A}{Mb M:Nat->Prop}{wb:World}{js:List Sp.Opn}{key:Sp.By}{pa px:Option Addr}{pl pc:Nat}{path:List Sp.By}
theorem VT(hJ:Bm (f+1+p.length) w D rv jn iv ch Tb Mb wb T M js)(hs:Sp.sub p T=some m)(hf:AV m i key c)(hr:Ca m key)(hl:js.length<=1000000000)(hp:AM w (GA (f+1+p.length) Tb wb M) (.slice pa pl pc) path)(hft:f<=top)(hx:Ae f w (.pointer px) x)(hxn:(Sp.fp f x).Nodup)(hxd:∀k∈Sp.fp f x,¬ M k/\k ∉ Sp.fp (f+1+p.length) T/\k≠D/\jn.ownBlock≠some k/\wb.heap.size<=k) :
  Calls Tryz.prog 160 #[.pointer (some ⟨D,0,none⟩),plV (.slice pa pl pc) (Sp.blk m) key i,.pointer px] w fun e w'=>e = .returned (.tuple #[]) /\
   B1 (f+1+p.length) D rv iv ch Tb Mb wb (Sp.put p (Sp.Bx i key x m) T) M (js++[(2,path,Sp.str f c)]) w w':=by
 obtain⟨u,hu⟩:=Ae.at (f:=f+1) hJ.tr hs;obtain⟨a1,a2,a3,a4⟩:=hf.apart (Sp.BB (f:=f+1) hs hJ.nd);obtain⟨yv,hc⟩:=hu.kidAt a4;obtain⟨yb,rfl,_⟩:=hc.ptr;have hb:Below w.heap.size w (plW w pa pl pc (Sp.blk m) key i):=(Below.refl _ _).alloc (Nat.le_refl _) _;have hbs:(plW w pa pl pc (Sp.blk m) key i).heap.size=w.heap.size+1:=by simp
 refine SC (y:=⟨yb,0,none⟩) ((DX (hu.bel hb) hf hr.2).mono ?_) (fun w2 hb2=>?_)
 ·rintro e w' ⟨⟨y,rfl,hy⟩,hb2⟩;obtain rfl:=hy.uniq hc;exact⟨rfl,hbs▸hb2⟩
 ·have h2:=GW hb2;obtain⟨hJ2,hX2⟩:=hJ.bel h2;refine (Mr hJ2 hs hf hr hl (hp.move fun k hk hkl=>⟨h2.block k hkl,hk⟩) hft (hx.bel h2) hxn hxd).mono ?_;rintro e w3 ⟨rfl,jn',T',M',q1,q2,q3⟩;exact⟨rfl,jn',T',M',q1,q2,hX2.trans q3⟩
theorem Tx{b g:Nat}{es:List (Lit×Sp.A)}(hJ:Bm (f+1+p.length) w D rv jn iv ch Tb Mb wb T M js)(hs:Sp.sub p T=some (Sp.nd b g (.map es)))(hf:∀p∈es,p.1≠Lit.string key)(hr:Ca (Sp.nd b g (.map es)) key)(hl:js.length<=1000000000)(hp:AM w (GA (f+1+p.length) Tb wb M) (.slice pa pl pc) path)(hx:Ae f w (.pointer px) x)(hxn:(Sp.fp f x).Nodup)(hxd:∀k∈Sp.fp f x,¬ M k/\k ∉ Sp.fp (f+1+p.length) T/\k≠D/\jn.ownBlock≠some k/\wb.heap.size<=k) :
  Calls Tryz.prog 160 #[.pointer (some ⟨D,0,none⟩),plV (.slice pa pl pc) b key i,.pointer px] w fun e w'=>e = .returned (.tuple #[]) /\
   B1 (f+1+p.length) D rv iv ch Tb Mb wb (Sp.put p (Sp.BS i key x (Sp.nd b g (.map es))) T) M (js++[(1,path,.nil)]) w w':=by
 obtain⟨u,hu⟩:=Ae.at (f:=f+1) hJ.tr hs;have hb:Below w.heap.size w (plW w pa pl pc b key i):=(Below.refl _ _).alloc (Nat.le_refl _) _;have hbs:(plW w pa pl pc b key i).heap.size=w.heap.size+1:=by simp
 refine Oh ((Jo (hu.bel hb) hf hr.2).mono ?_) (fun w2 hb2=>?_)
 ·rintro e w' ⟨rfl,hb2⟩;exact⟨rfl,hbs▸hb2⟩
 ·have h2:=GW hb2;obtain⟨hJ2,hX2⟩:=hJ.bel h2;refine (Kb (m:=Sp.nd b g (.map es)) hJ2 hs (Or.inr ⟨b,g,es,rfl,hf⟩) hr hl (hp.move fun k hk hkl=>⟨h2.block k hkl,hk⟩) (hx.bel h2) hxn hxd).mono ?_;rintro e w3 ⟨rfl,jn',T',M',q1,q2,q3⟩;exact⟨rfl,jn',T',M',q1,q2,hX2.trans q3⟩
end
end

section
set_option maxRecDepth 100000
set_option maxHeartbeats 4000000
open Go.RowKit Go.Maps
theorem IR{w:World}{D g o n cap:Nat}{t:Sp.By}{wp:Option Addr}{R:World->Option Addr->Int->Prop}(hn:n+1<=cap)(hcap:cap<=maxLen)(hg:g<w.heap.size)(ht:w.cell? ⟨g,o+n,none⟩=some (.string ⟨t.toArray⟩))
  (hW:∀w1,Below w.heap.size w w1->Calls Tryz.prog 56 #[.pointer (some ⟨D,0,none⟩)] w1 fun x w'=>x = .returned (.pointer wp)/\Below w1.heap.size w1 w')
  (hF:∀w1,Below w.heap.size w w1->Calls Tryz.prog 81 #[.slice (some ⟨g,o,none⟩) n cap,.pointer wp] w1 fun e w'=>∃x c,e = .returned (.tuple #[.pointer x,.int .i64 c])/\Hid (R w' x c)/\Below w1.heap.size w1 w') :
  Calls Tryz.prog 243 #[.pointer (some ⟨D,0,none⟩),.slice (some ⟨g,o,none⟩) (n+1) cap] w fun e w'=>∃x c,e = .returned (.tuple #[.pointer x,.string ⟨t.toArray⟩,.int .i64 c])/\Hid (∃w2,R w2 x c/\w'.heap=w2.heap)/\Below w.heap.size w w':=by
 have HW:=Ab hW;have HF:=Ab hF;have hB:=Below.refl w.heap.size w;unfold maxLen at hcap;have e1:IntKind.i64.wrap (n:Int)=n:=by rw[IntKind.wrap_i64];omega
 have e2:IntKind.i64.wrap ((n:Int)+1-1)=n:=by rw[IntKind.wrap_i64];omega
 have l1:(0:Int)<=(n:Int):=by omega
 have l2:n<=cap:=by omega
 have l3:n<n+1:=by omega
 clear hW hF
 go_enter func243,ntmps243
 go_wp2_with (fail)
 go_region_with (first
  | (go_at_call 56;refine (Aa HW _ ?_).mono ?_;exact⟨rfl,rfl,rfl,Nat.le_refl _,fun _ _=>rfl⟩;rintro x w2 ⟨rfl,hb2⟩;replace hb2:Below w.heap.size w w2:=⟨hb2.os,hb2.tape,hb2.output,hb2.size,hb2.block⟩)
  | (go_at_call 81;refine (Aa HF _ ?_).mono ?_;exact⟨hb2.os,hb2.tape,hb2.output,hb2.size,hb2.block⟩;rintro e w3 ⟨x,c,rfl,hR,hb3⟩))
 all_goals (
  replace hb3:Below w.heap.size w w3:=hb2.trans ⟨hb3.os,hb3.tape,hb3.output,hb3.size,fun k hk=>hb3.block k (Nat.lt_of_lt_of_le hk hb2.size)⟩
  have ht3:w3.cell? ⟨g,o+n,none⟩=some (.string ⟨t.toArray⟩):=(hb3.cell (p:=⟨g,o+n,none⟩) hg).trans ht;have HB3:=Ab hb3;have HR:Hid (R w3 x c):=hR;clear hb2 hb3 hB ht hR
  go_wp2_with (fail)
  go_region_with (fail))
 all_goals (
  go_wp2_with (fail);refine bodyPost_ret (v:=.tuple #[.pointer x,.string ⟨t.toArray⟩,.int .i64 c]) (by simp[results,results243,go_sem]) rfl ?_
  have h3:=Aa HB3;exact⟨x,c,rfl,Ab ⟨w3,Aa HR,rfl⟩,⟨h3.os,h3.tape,h3.output,h3.size,h3.block⟩⟩)
end

section
set_option maxHeartbeats 2000000
open Go.RowKit Go.Maps
theorem U5:(Tryz.prog.info? 9).map (fun i=>(i.zero,i.size,i.bytes))=some (some (.string ⟨#[]⟩),1,16):=by kernel_rfl
abbrev Ig(l:List Sp.By):List Value:=l.map fun t=>.string ⟨t.toArray⟩
theorem NZ{w:World}{g o cap:Nat}{l:List Sp.By}(ht:CX w g o l)(hl:0<l.length)(hb:l.length<=1000000000) :
  Calls Tryz.prog 289 #[.slice (some ⟨g,o,none⟩) l.length cap] w fun e w'=>∃g2 c2,e = .returned (.slice (some ⟨g2,0,none⟩) l.length c2)/\w'.ownsRow w.heap.size 9 1 (.slice (some ⟨g2,0,none⟩) l.length c2) l.length (Ig l)/\Below w.heap.size w w':=by
 obtain⟨i0,hi0,hz0,hz1,hz2⟩:=info_parts U5;have hc:=AnyE.slices_Clone Tryz.eClone i0 (.string ⟨#[]⟩) 1 16 hi0 hz0 hz1 hz2 rfl (by decide) (fun w=>Tryz.sizeOf9 w) g o l.length cap (Ig l) w (by simp) (by unfold maxLen;omega) (by omega) (fun j u hu=>by
  obtain⟨hj,rfl⟩:=List.getElem?_eq_some_iff.1 hu;rw[List.getElem_map];exact ht.2 j (by simpa using hj)) (fun u hu=>by
  obtain⟨t,_,rfl⟩:=List.mem_map.1 hu;rfl)
 refine hc.mono ?_;rintro e w' ⟨v',rfl,ho,hne,hb⟩;rcases ho.2 with⟨h,_⟩|⟨g2,c2,cur,rfl,_⟩
 ·exact absurd h hne
 ·exact⟨g2,c2,rfl,ho,hb⟩
theorem Oi{w:World}{g o n cap i:Nat}{l:List Sp.By}(hT:Af w)(ht:CX w g o l)(hl:l.length=n+1)(hb:l.length<=1000000000)(hi:i<=1000000000000) :
  Calls Tryz.prog 245 #[.slice (some ⟨g,o,none⟩) (n+1) cap,.int .i64 i] w fun e w'=>∃g2 c2,e = .returned (.slice (some ⟨g2,0,none⟩) (n+1) c2)/\w'.ownsRow w.heap.size 9 1 (.slice (some ⟨g2,0,none⟩) (n+1) c2) (n+1) (Ig (l.set n (Lib.itoa (i:Int))))/\Below w.heap.size w w':=by
 have HC:=Ab (NZ (cap:=cap) ht (by omega) hb);have HT:=Ab hT;rw[hl] at HC;have e1:IntKind.i64.wrap (n:Int)=n:=by rw[IntKind.wrap_i64];omega
 have e2:IntKind.i64.wrap ((n:Int)+1-1)=n:=by rw[IntKind.wrap_i64];omega
 have l3:n<n+1:=by omega
 have l4:(0:Int)<=(n:Int):=by omega
 have HL:=Ab hl;clear hT ht hl hb
 go_enter func245,ntmps245
 go_wp2_with (fail);refine (Aa HC).mono ?_
 rintro e w2 ⟨g2,c2,rfl,ho,hbw⟩;have HO:=Ab ho;have HB:=Ab hbw;have hT2:=((Aa HT).below (hbw.mono (Aa HT).ng)).tab;clear ho hbw HC
 go_wp2_with (fail);refine (Tryz.strconv_Itoa i (by omega) (by omega) w2 hT2).mono ?_
 rintro e w5 ⟨rfl,kk,os,rfl⟩;have hb5:=GL w2 kk os;generalize Sort.grow (w2.drewN kk) os=w5 at *;have hg2:w.heap.size<=g2/\g2<w2.heap.size:=by
  have h:=BP (Aa HO) g2 rfl;exact⟨h.2,h.1⟩
 have ho5:=BG (w':=w5) (Aa HO) fun k hk=>by
  simp[Value.ownBlock] at hk;subst hk;exact hb5.block _ hg2.2
 have hnl:n<l.length:=by rw[Aa HL];exact l3
 have hcell:w5.cell? ⟨g2,n,none⟩=some (.string ⟨l[n].toArray⟩):=by
  rw[ho5.cellAt n (by omega),List.getElem?_map,List.getElem?_eq_getElem hnl];rfl
 have hz:w5.frozen? ⟨g2,n,none⟩=false:=by
  rcases ho5.2 with⟨h',_⟩|⟨g',cap',cur,h',_,hg,_⟩
  ·simp at h'
  ·simp only[Value.slice.injEq,Option.some.injEq,Addr.mk.injEq,and_true,true_and] at h';obtain⟨rfl,_⟩:=h';simp[World.frozen?,hg]
 have HO5:=Ab ho5;have HB5:=Ab ((Aa HB).trans (hb5.mono (by omega)));clear ho5 hb5 hT2
 go_wp2_with (fail);refine bodyPost_ret (v:=.slice (some ⟨g2,0,none⟩) (n+1) c2) (by simp[results,results245,go_sem]) rfl ⟨g2,c2,rfl,?_,Aq (Aa HB5) g2 n hg2.1 _⟩
 have h:=((Aa HO5).stored n (.string ⟨(Lib.itoa (i:Int)).toArray⟩)).1;rw[show Ig (l.set n (Lib.itoa (i:Int)))=(Ig l).set n (.string ⟨(Lib.itoa (i:Int)).toArray⟩) from List.map_set];exact h
end

section
set_option maxHeartbeats 2000000
open Go.RowKit Go.Maps
theorem LR:∀ {l m:List Sp.By},Lib.allEq (fun x y:ByteArray=>x.toList == y.toList) (l.map fun t=>⟨t.toArray⟩) (m.map fun t=>⟨t.toArray⟩)=(l == m)
 | [],[]=>rfl
 | [],_::_=>rfl
 | _::_,[]=>rfl
 | x::l,y::m=>by
  have ih:=LR (l:=l) (m:=m);simp only[List.map_cons,Lib.allEq];rw[ih];show _=(x == y && l == m)
  rw[ByteArray.toList_mk,ByteArray.toList_mk]
theorem PE{w:World}{a1 a2:Option Addr}{n c m d:Nat}(h:n≠m):Calls Tryz.prog 202 #[.slice a1 n c,.slice a2 m d] w fun e w'=>e = .returned (.bool false)/\Below w.heap.size w w':=by
 have e1:¬ ((n:Int)=(m:Int)):=by omega
 have e2:((n:Int) != (m:Int))=true:=by rw[bne_iff_ne];exact e1
 have e3:((n:Int) == (m:Int))=false:=by rw[beq_eq_false_iff_ne];exact e1
 go_enter func202,ntmps202
 go_wp2_with (fail)
 go_ret;exact⟨rfl,Below.refl _ _⟩
theorem PF{w:World}{g1 o1 c1 g2 o2 c2:Nat}{l m:List Sp.By}(h1:CX w g1 o1 l)(h2:CX w g2 o2 m)(hl:l.length<=maxLen)(hm:m.length<=maxLen) :
  Calls Tryz.prog 202 #[.slice (some ⟨g1,o1,none⟩) l.length c1,.slice (some ⟨g2,o2,none⟩) m.length c2] w fun e w'=>e = .returned (.bool (l == m))/\Below w.heap.size w w':=by
 unfold maxLen at hl hm;have hc:=AnyE.slices_Equal Tryz.eEqual Value.string (fun x y=>x.toList == y.toList) (NeqAt.string _ _) g1 o1 l.length c1 g2 o2 m.length c2 (l.map fun t=>⟨t.toArray⟩) (m.map fun t=>⟨t.toArray⟩) w (by simp) (by simp) (by omega) (by omega) (fun j hj=>by
  have hj2:j<l.length:=by simpa using hj
  rw[h1.2 j hj2,getElem!_pos _ j hj,List.getElem_map]) (fun j hj=>by
  have hj2:j<m.length:=by simpa using hj
  rw[h2.2 j hj2,getElem!_pos _ j hj,List.getElem_map])
 refine hc.mono ?_;rintro e w' ⟨rfl,q,rfl⟩;refine⟨?_,⟨rfl,rfl,rfl,Nat.le_refl _,fun _ _=>rfl⟩⟩;rw[List.take_of_length_le (by simp),List.take_of_length_le (by simp),LR]
theorem PG{w:World}{a1 a2:Option Addr}{c d:Nat}:Calls Tryz.prog 202 #[.slice a1 0 c,.slice a2 0 d] w fun e w'=>e = .returned (.bool true)/\Below w.heap.size w w':=by
 go_enter func202,ntmps202
 go_wp2
 go_loopg [13] 0 (fun g s13 wr=>s13 = .int .i64 (0:Nat)/\wr=w)
 case atStart=>exact⟨rfl,rfl⟩
 case round =>
  obtain⟨rfl,rfl⟩:=hrel
  go_wp2
  go_ret;exact⟨rfl,Below.refl _ _⟩
end
end Go.Proofs.YtdpomdelmdofmaaGreatDoor
