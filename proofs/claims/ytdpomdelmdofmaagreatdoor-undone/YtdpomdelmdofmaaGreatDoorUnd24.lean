import Derived.Test.YtdpomdelmdofmaaGreatDoorUnd23
namespace Go.Proofs.YtdpomdelmdofmaaGreatDoor
open Go.Proofs.Tryz
section
open Go.RowKit Go.Maps
section
variable{w:World}{D R:Nat}{wp:Option Addr}{jn iv:Value}{ch:Bool}{Tb T a:Sp.A}{Mb M:Nat->Prop}{wb:World}{v xv:Sp.V}{js:List Sp.Opn}{y:Option Addr}{F:Nat->Prop}{d x:Int}{B:Nat}
 {k:Nat} {pa fa:Option Addr} {pl pc fl fc:Nat} {p q:List Sp.By}
def GX(w:World)(G:Nat->Prop)(o:Sp.Op2)(pa:Option Addr)(pl pc:Nat)(fa:Option Addr)(fl fc:Nat)(y:Option Addr):Prop :=
 o.1<6/\AM w G (.slice pa pl pc) o.2.1/\((o.1=3\/o.1=4)->AM w G (.slice fa fl fc) o.2.2.1)/\((o.1=0\/o.1=2\/o.1=5)->Rep top G w (.pointer y) o.2.2.2)
def Sp.OpOk(d x:Int)(B:Nat)(o:Sp.Op2):Prop:=Sp.PathOk o.2.1/\((o.1=3\/o.1=4)->Sp.PathOk o.2.2.1)/\((o.1=0\/o.1=2\/o.1=5)->Sp.Fit d x B o.2.2.2)
theorem XZ{o:Sp.Op2}(h:JS w D R wp jn iv ch Tb Mb wb T a v M js)(hT:Af w)(hM0:∀k,k<NG->M k)(hv:Sp.Fit d x B v)(hB:B<=900000000)(hl:js.length<=900000000)(ho:GX w (GA (top+1) Tb wb M) o pa pl pc fa fl fc y)(hok:Sp.OpOk d x B o) :
  Calls Tryz.prog 116 #[.pointer (some ⟨D,0,none⟩),opV o.1 pa pl pc fa fl fc y] w fun e w'=>AP D R iv ch Tb Mb wb M js w (Sp.do1 v o) e w':=by
 have hM:∀k,M k->k<w.heap.size:=fun k hk=>(h.j.low k hk).1;obtain⟨k,p,q,xv⟩:=o;obtain⟨o1,o2,o3,o4⟩:=ho;obtain⟨k1,k2,k3⟩:=hok;simp only at o1 o2 o3 o4 k1 k2 k3 |-;refine (WK (Q:=fun c w'=>AP D R iv ch Tb Mb wb M js w (Sp.do1 v (k,p,q,xv)) (.returned (.int .i64 c)) w') o1 fun w1 hb1=>?_).mono ?_
 ·have hfin:∀ {r:Except Nat (Sp.V×List Sp.Opn)} {f:Nat},Sp.do1 v (k,p,q,xv)=r->Calls Tryz.prog f #[.pointer (some ⟨D,0,none⟩),opV k pa pl pc fa fl fc y] w1 (fun e w'=>AP D R iv ch Tb Mb wb M js w1 r e w') ->
    Calls Tryz.prog f #[.pointer (some ⟨D,0,none⟩),opV k pa pl pc fa fl fc y] w1 (fun e w'=>∃c:Nat,e = .returned (.int .i64 c)/\Hid (AP D R iv ch Tb Mb wb M js w (Sp.do1 v (k,p,q,xv)) (.returned (.int .i64 c)) w')):=by
   intro r f hr hc;refine hc.mono ?_;rintro e w' he;obtain⟨c,rfl,h2⟩:=he.form;rw[hr];exact⟨c,rfl,AP.below hb1 hM (Aa h2)⟩
  have hJ:=h.bel hb1;have hT1:=hT.bel hb1;have p1:=o2.at hb1
  match k,o1 with
  | 0,_=>exact hfin rfl (So hJ hT1 hv (k3 (Or.inl rfl)) hB (by omega) ((o4 (Or.inl rfl)).bel hb1) p1 k1)
  | 1,_=>exact hfin rfl (Nz hJ hT1 hv hB (by omega) p1 k1)
  | 2,_=>exact hfin rfl (LZ hJ hT1 hv (k3 (Or.inr (Or.inl rfl))) hB (by omega) ((o4 (Or.inr (Or.inl rfl))).bel hb1) p1 k1)
  | 3,_=>exact hfin rfl (Qk hJ hT1 hM0 hv hB hl p1 k1 ((o3 (Or.inl rfl)).at hb1) (k2 (Or.inl rfl)))
  | 4,_=>exact hfin rfl (Qn hJ hT1 hv hB (by omega) p1 k1 ((o3 (Or.inr rfl)).at hb1) (k2 (Or.inr rfl)))
  | 5,_=>exact hfin rfl (Qi hJ hT1 ((o4 (Or.inr (Or.inr rfl))).bel hb1) p1 k1)
 ·rintro e w' ⟨c,rfl,h2⟩;exact h2
end
end

section
open Go.RowKit Go.Maps
namespace Sp
theorem H8{d x:Int}{f:Nat}{lv:Int}{v e:V}{t:By}(h:gd d x (f+1) lv v)(hc:Aj v t = .ok e):∃i,pos v t=some i/\(A9 v)[i]? = some e:=by
 obtain⟨_,h⟩:=h;rcases h with⟨k,hk,rfl⟩|⟨s,hs,rfl⟩|⟨n,h1,h2,h3,rfl⟩|⟨es,h,rfl⟩|⟨es,h1,h2,rfl⟩
 ·cases hc
 ·cases hc
 ·cases hc
 ·obtain⟨i,_,h2,h3⟩:=G7 hc;exact⟨i,h3,h2⟩
 ·have hp:∀ (es:List (Lit×V)),Pt (fun _ _=>True) (es.map fun p=>(p.1,DataW.held (Value.pointer none))) es:=by
   intro es;induction es with
   | nil=>exact trivial
   | cons a r ih=>exact⟨⟨rfl,_,rfl,trivial⟩,ih⟩
  have hc2:Aj (Av es) t=(if Maps.has (.map es:V) (.string t)=true then .ok ((DataW.map es).atKey (.string t) .nil) else .error 11):=rfl;rw[hc2] at hc;split at hc
  ·rename_i hh;injection hc with hc;have hh2:=(hp es).has (.string t);obtain⟨i,key,c,_,e1,e2,e3,_,_⟩:=(hp es).first (.string t) (hh2.trans hh)
   refine⟨i,e1,?_⟩;show (es.map Prod.snd)[i]? = some e;rw[List.getElem?_map,e2,<- hc,B8,e3];rfl
  ·cases hc
theorem Nl{d x:Int}:∀ {s:List By} {f:Nat} {lv:Int} {v n:V},gd d x f lv v->Ag v s = .ok n -> ∃q f',f'+1+q.length=f/\Bz v s=some q/\BC q v=some n
 | [],f,lv,v,n,h,hf=>by
  injection hf with hf;subst hf;cases f with
  | zero=>exact h.elim
  | succ f=>exact⟨[],f,rfl,rfl,rfl⟩
 | t::r,f,lv,v,n,h,hf=>by
  cases f with
  | zero=>exact h.elim
  | succ f =>
   rw[Ag] at hf;cases hc:Aj v t with
   | error c=>rw[hc] at hf;cases hf
   | ok e =>
    rw[hc] at hf;obtain⟨i,h1,h2⟩:=H8 h hc;obtain⟨q,f',e1,e2,e3⟩:=Nl (Fu h h2) hf;refine⟨i::q,f',by simp;omega,?_,?_⟩
    ·rw[Bz,h1];simp only[h2,e2];rfl
    ·rw[BC,h2];exact e3
variable{d d' x:Int}{B B':Nat}{v n e xv:V}{s p q:List By}{t:By}
theorem EC(hv:Fit d x B v)(hf:Ag v s = .ok n):∃q f,f+1+List.length q=top/\Bz v s=some q/\BC q v=some n/\gd d x (f+1) (1+q.length) n/\sz (f+1) n<=B/\1+(q.length:Int)<=d/\1000<=f:=by
 obtain⟨q,f,h1,h2,h3⟩:=Nl hv.gd hf;have hg:gd d x (f+1+q.length) 1 v:=by rw[h1];exact hv.gd
 have g1:=Ni hg h3;have g2:=Mq hg h3;rw[h1] at g2;have g3:=GM g1;have:=hv.sz;have:=hv.dd;have:=EO;exact⟨q,f,h1,h2,h3,g1,by omega,g3,by omega⟩
theorem Fit.mono(h:Fit d x B v)(hd:d<=d')(h5:d'<=500)(hB:B<=B'):Fit d' x B' v:=⟨CK hd h.gd,h5,Nat.le_trans h.sz hB⟩
theorem DY(hv:Fit d x B v)(hf:Ag v s = .ok n):Fit d x B n:=by
 obtain⟨q,f,h1,h2,h3,h4,h5,h6,h7⟩:=EC hv hf;have g1:=EU (s:=-(q.length:Int)) h4;rw[show (1:Int)+q.length + -(q.length:Int)=1 by omega] at g1;have g2:gd d x (f+1) 1 n:=CK (by omega) g1;refine⟨Cj g2 (by have:=hv.dd;have:=EO;omega),hv.dd,?_⟩;rw[Fb g2 (by omega)];exact h5
theorem Gj{f:Nat}{qq:List Nat}{n':V}(hv:Fit d x B v)(h1:f+1+qq.length=top)(h3:BC qq v=some n)(hd:d<=d')(h5:d'<=500)(hg:gd d' x (f+1) (1+qq.length) n')(hs:sz (f+1) n'<=sz (f+1) n+B'):Fit d' x (B+B') (Ay qq n' v):=by
 have hgv:gd d' x (f+1+qq.length) 1 v:=by rw[h1];exact CK hd hv.gd
 have g1:=Kc hgv h3 hg;have g2:=JI (n':=n') hgv h3;rw[h1] at g1 g2;have:=hv.sz;exact⟨g1,h5,by omega⟩
theorem U8{f:Nat}{k:Nat}(hx:Fit d' x B' xv)(hk:1+(k:Int)<=d)(h5:d+d'<=500)(hf:1000<=f):gd (d+d') x f (1+(k:Int)+1) xv/\sz f xv<=B':=by
 have g1:=EU (s:=1+(k:Int)) hx.gd;have g2:=CK (D:=d+d') (by omega) g1;rw[show (1:Int)+(1+(k:Int))=1+(k:Int)+1 by omega] at g2;refine⟨Cj g2 (by omega),?_⟩;have g3:=Cj (f:=f) hx.gd (by have:=hx.dd;omega);have h9:=hx.sz;by_cases hft:f<=top
 ·rw[Fb g3 hft] at h9;exact h9
 ·rw[Fb hx.gd (by omega)];exact h9
theorem OJ(h:PathOk p)(ht:t∈p):(Ah t).length<=600002:=by
 have:=Gm t;have:=h.tok t ht;omega
theorem EN:Ut noB:=⟨[],(fun c h=>by cases h),rfl⟩
def FF(d x:Int)(B:Nat)(o:Opn):Prop:=(o.2.1.map fun t=>t.length+1).sum<=200000/\(o.1≠1->Fit d x B o.2.2)
theorem Fm(s:List By)(t:By):((s++[t]).map fun t=>t.length+1).sum=(s.map fun t=>t.length+1).sum+(t.length+1):=by simp
theorem P1(i:Nat)(h:i<=1000000000000):(Lib.itoa (i:Int)).length<=1000:=by
 have:=Lib.itoa_length_le (i:Int) (by omega) (by omega);omega
theorem Jv{v':V}{j:List Opn}(hv:Fit d x B v)(hx:Fit d' x B' xv)(hp:PathOk p)(h5:d+d'<=500)(hB:B<=900000000)(h:BU v p xv = .ok (v',j)):Fit (d+d') x (B+(B'+600004)) v' /\ ∀o∈j,FF d x B o:=by
 have hd1:=GM hv.gd;have hd2:=GM hx.gd;unfold BU BX at h;cases hl:p.getLast? with
 | none =>
  rw[hl] at h;injection h with h;injection h with e1 e2;subst e1;subst e2;refine⟨hx.mono (by omega) h5 (by omega),fun o ho=>?_⟩;obtain rfl:o=(2,[],v):=by simpa using ho
  exact⟨by simp,fun _=>hv⟩
 | some t =>
  have hne:p≠[]:=by rintro rfl;cases hl
  obtain⟨s,t',rfl⟩:∃s t,p=s++[t]:=⟨p.dropLast,p.getLast hne,(List.dropLast_concat_getLast hne).symm⟩
  rw[List.getLast?_concat] at hl;injection hl with hl;subst hl;simp only[List.getLast?_concat,List.dropLast_concat] at h;cases hf:Ag v s with
  | error c=>rw[hf] at h;cases h
  | ok n =>
   rw[hf] at h;simp only at h;obtain⟨qq,f,h1,h2,h3,h4,h5',h6,h7⟩:=EC hv hf;obtain⟨g1,g2⟩:=U8 (d:=d) hx h6 h5 h7;have hq:=OJ hp (show t'∈s++[t'] by simp);have hut:Ut t':=hp.2 t' (by simp);have hsum:=hp.1;rw[Fm] at hsum;have hn4:=CK (D:=d+d') (by omega) h4;unfold Ce at h;split at h
   ·rename_i es;split at h
    ·rename_i hh;injection h with h;injection h with e1 e2;subst e1;subst e2;rw[Dc h2];refine⟨Gj hv h1 h3 (by omega) h5 (RZ hn4 hut g1) ?_,fun o ho=>?_⟩
     ·have:=QX (f:=f) (i:=0) (k:=t') (c:=xv) (v:=.map es);omega
     ·obtain rfl:o=(2,s++[t'],(DataW.map es).atKey (.string t') .nil):=by simpa using ho
      refine⟨by rw[Fm];omega,fun _=>?_⟩;have hch:Ag v (s++[t']) = .ok ((DataW.map es).atKey (.string t') .nil):=by
       rw[BL,hf];show (if Maps.has (.map es:V) (.string t')=true then Except.ok ((DataW.map es).atKey (.string t') .nil) else .error 11)=_;rw[if_pos hh]
      exact DY hv hch
    ·injection h with h;injection h with e1 e2;subst e1;subst e2;rw[Dc h2];refine⟨Gj hv h1 h3 (by omega) h5 (R1 hn4 hut g1) ?_,fun o ho=>?_⟩
     ·have:=QZ (f:=f) (i:=0) (k:=t') (c:=xv) (v:=.map es);omega
     ·obtain rfl:o=(1,s++[t'],.nil):=by simpa using ho
      exact⟨by rw[Fm];omega,fun hh=>absurd rfl hh⟩
   ·rename_i es y;split at h
    ·cases h
    ·rename_i i hi;injection h with h;injection h with e1 e2;subst e1;subst e2;rw[Dc h2];have hi2:=OG hi;have hk:=It (f:=f) (v:=.slice es y);have hk2:es.length<=B:=Nat.le_trans hk h5';refine⟨Gj hv h1 h3 (by omega) h5 (R1 hn4 EN g1) ?_,fun o ho=>?_⟩
     ·have:=QZ (f:=f) (i:=i) (k:=noB) (c:=xv) (v:=.slice es y);have e9:(Ah noB).length=2:=rfl;omega
     ·obtain rfl:o=(1,s++[Lib.itoa (i:Int)],.nil):=by simpa using ho
      refine⟨?_,fun hh=>absurd rfl hh⟩;have:=P1 i (by omega);rw[Fm];omega
   ·cases h
theorem Hx{v':V}{j:List Opn}(hv:Fit d x B v)(hp:PathOk p)(h:B7 v p = .ok (v',j)):Fit d x B v' /\ ∀o∈j,FF d x B o:=by
 unfold B7 BX at h;cases hl:p.getLast? with
 | none=>rw[hl] at h;cases h
 | some t =>
  have hne:p≠[]:=by rintro rfl;cases hl
  obtain⟨s,t',rfl⟩:∃s t,p=s++[t]:=⟨p.dropLast,p.getLast hne,(List.dropLast_concat_getLast hne).symm⟩
  simp only[List.getLast?_concat,List.dropLast_concat] at h;cases hf:Ag v s with
  | error c=>rw[hf] at h;cases h
  | ok n =>
   rw[hf] at h;simp only at h;cases hc:Aj n t' with
   | error c=>rw[hc] at h;cases h
   | ok e =>
    rw[hc] at h;simp only at h;injection h with h;injection h with e1 e2;subst e1;subst e2;obtain⟨qq,f,h1,h2,h3,h4,h5',h6,h7⟩:=EC hv hf;rw[Dc h2];have h8:=Gj (B':=0) hv h1 h3 (Int.le_refl _) hv.dd (R0 (i:=(idx t').getD 0) (k:=t') h4) (by have:=QY (f:=f) (i:=(idx t').getD 0) (k:=t') (v:=n);omega);refine⟨h8,fun o ho=>?_⟩;obtain rfl:o=(0,s++[t'],e):=by simpa using ho
    exact⟨by have:=hp.1;simp only;omega,fun _=>DY hv (by rw[BL,hf];exact hc)⟩
theorem UF{v':V}{j:List Opn}(hv:Fit d x B v)(hx:Fit d' x B' xv)(hp:PathOk p)(h5:d+d'<=500)(h:CM v p xv = .ok (v',j)):Fit (d+d') x (B+(B'+600004)) v' /\ ∀o∈j,FF d x B o:=by
 have hd1:=GM hv.gd;have hd2:=GM hx.gd;unfold CM BX at h;cases hl:p.getLast? with
 | none =>
  rw[hl] at h;injection h with h;injection h with e1 e2;subst e1;subst e2;refine⟨hx.mono (by omega) h5 (by omega),fun o ho=>?_⟩;obtain rfl:o=(2,[],v):=by simpa using ho
  exact⟨by simp,fun _=>hv⟩
 | some t =>
  have hne:p≠[]:=by rintro rfl;cases hl
  obtain⟨s,t',rfl⟩:∃s t,p=s++[t]:=⟨p.dropLast,p.getLast hne,(List.dropLast_concat_getLast hne).symm⟩
  simp only[List.getLast?_concat,List.dropLast_concat] at h;cases hf:Ag v s with
  | error c=>rw[hf] at h;cases h
  | ok n =>
   rw[hf] at h;simp only at h;cases hc:Aj n t' with
   | error c=>rw[hc] at h;cases h
   | ok e =>
    rw[hc] at h;simp only at h;injection h with h;injection h with e1 e2;subst e1;subst e2;obtain⟨qq,f,h1,h2,h3,h4,h5',h6,h7⟩:=EC hv hf;obtain⟨g1,g2⟩:=U8 (d:=d) hx h6 h5 h7;have hq:=OJ hp (show t'∈s++[t'] by simp);have hut:Ut t':=hp.2 t' (by simp);have hn4:=CK (D:=d+d') (by omega) h4;rw[Dc h2];refine⟨Gj hv h1 h3 (by omega) h5 (RZ hn4 hut g1) ?_,fun o ho=>?_⟩
    ·have:=QX (f:=f) (i:=(idx t').getD 0) (k:=t') (c:=xv) (v:=n);omega
    ·obtain rfl:o=(2,s++[t'],e):=by simpa using ho
     exact⟨by have:=hp.1;simp only;omega,fun _=>DY hv (by rw[BL,hf];exact hc)⟩
theorem Iy{v':V}{j:List Opn}{o:Op2}(hv:Fit d x 200000 v)(ho:OpOk (d+2) x 200000 o)(h5:d<=100)(h:do1 v o = .ok (v',j)):Fit (d+(d+2)) x 1100000 v'/\(∀o∈j,FF d x 200000 o)/\j.length<=2:=by
 obtain⟨k,p,q,xv⟩:=o;obtain⟨k1,k2,k3⟩:=ho;have hd1:=GM hv.gd;simp only at k1 k2 k3;have hmono:∀ {w:V} {D:Int} {C:Nat},Fit D x C w->D<=d+(d+2)->C<=1100000->Fit (d+(d+2)) x 1100000 w:=fun hw h1 h2=>hw.mono h1 (by omega) h2;have one:∀ {p:List By} {xv v':V} {j:List Opn},BU v p xv = .ok (v',j)->j.length<=1:=by
  intro p xv v' j h;unfold BU at h;split at h
  ·injection h with h;injection h with _ h;subst h;simp
  ·split at h
   ·cases h
   ·unfold Ce at h
    repeat' split at h
    all_goals first|(injection h with h;injection h with _ h;subst h;simp)|cases h
 unfold do1 at h;simp only at h;split at h
 ·rename_i hk;obtain⟨r1,r2⟩:=Jv hv (k3 (Or.inl hk)) k1 (by omega) (by omega) h;exact⟨hmono r1 (by omega) (by omega),r2,Nat.le_trans (one h) (by omega)⟩
 ·split at h
  ·obtain⟨r1,r2⟩:=Hx hv k1 h;refine⟨hmono r1 (by omega) (by omega),r2,?_⟩;unfold B7 at h
   repeat' split at h
   all_goals first|(injection h with h;injection h with _ h;subst h;simp)|cases h
  ·split at h
   ·rename_i hk;obtain⟨r1,r2⟩:=UF hv (k3 (Or.inr (Or.inl hk))) k1 (by omega) h;refine⟨hmono r1 (by omega) (by omega),r2,?_⟩;unfold CM at h
    repeat' split at h
    all_goals first|(injection h with h;injection h with _ h;subst h;simp)|cases h
   ·split at h
    ·rename_i hk;have kq:=k2 (Or.inl hk);unfold Iz at h;cases hf:Ag v q with
     | error c=>rw[hf] at h;cases h
     | ok e =>
      rw[hf] at h;simp only at h;split at h
      ·injection h with h;injection h with e1 e2;subst e1;subst e2;exact⟨hmono hv (by omega) (by omega),(fun o ho=>by cases ho),by simp⟩
      ·split at h
       ·cases h
       ·cases hr:B7 v q with
        | error c=>rw[hr] at h;cases h
        | ok vj =>
         obtain⟨v1,j1⟩:=vj;rw[hr] at h;simp only at h;obtain⟨r1,r2⟩:=Hx hv kq hr;have hj1:j1.length<=1:=by
          unfold B7 at hr
          repeat' split at hr
          all_goals first|(injection hr with hr;injection hr with _ hr;subst hr;simp)|cases hr
         cases ha:BU v1 p e with
         | error c=>rw[ha] at h;cases h
         | ok vj2 =>
          obtain⟨v2,j2⟩:=vj2;rw[ha] at h;injection h with h;injection h with e1 e2;subst e1;subst e2;obtain⟨s1,s2⟩:=Jv r1 (DY hv hf) k1 (by omega) (by omega) ha;have hj2:j2.length<=1:=by
           unfold BU at ha;split at ha
           ·injection ha with ha;injection ha with _ ha;subst ha;simp
           ·split at ha
            ·cases ha
            ·unfold Ce at ha
             repeat' split at ha
             all_goals first|(injection ha with ha;injection ha with _ ha;subst ha;simp)|cases ha
          exact⟨hmono s1 (by omega) (by omega),fun o ho=>(List.mem_append.1 ho).elim (r2 o) (s2 o),by simp;omega⟩
    ·split at h
     ·unfold IA at h;cases hf:Ag v q with
      | error c=>rw[hf] at h;cases h
      | ok e =>
       rw[hf] at h;obtain⟨s1,s2⟩:=Jv hv (DY hv hf) k1 (by omega) (by omega) h;exact⟨hmono s1 (by omega) (by omega),s2,Nat.le_trans (one h) (by omega)⟩
     ·unfold Ix at h;cases hf:Ag v p with
      | error c=>rw[hf] at h;cases h
      | ok e =>
       rw[hf] at h;simp only at h;split at h
       ·injection h with h;injection h with e1 e2;subst e1;subst e2;exact⟨hmono hv (by omega) (by omega),(fun o ho=>by cases ho),by simp⟩
       ·cases h
theorem Jg{D:Int}{C:Nat}(hv:Fit D x C v)(h5:d<=100)(h:Ex d v=0):Fit d x 40000 v/\(can top v).length<=20000:=by
 unfold Ex at h;split at h
 ·cases h
 ·split at h
  ·cases h
  ·rename_i h1 h2;have g:=Nj hv.gd (show 1+dep top v<=d+1 by omega);have:=(CO hv.gd).2;exact⟨⟨g,by omega,by omega⟩,by omega⟩
theorem Sr{c:Nat}{o:Op2}(h:do1 v o = .error c):c≠0:=by
 have hadd:∀ {v:V} {p:List By} {xv:V} {c:Nat},BU v p xv = .error c->c≠0:=by
  intro v p xv c h;unfold BU at h;split at h
  ·cases h
  ·split at h
   ·rename_i hf;injection h with h;subst h;exact Ck hf
   ·unfold Ce at h;split at h
    ·split at h<;>cases h
    ·split at h
     ·rename_i hs;injection h with h;subst h;exact My hs
     ·cases h
    ·injection h with h;omega
 have hch:∀ {v:V} {t:By} {c:Nat},Aj v t = .error c->c≠0:=fun h=>by have:=EZ h;omega
 have hrem:∀ {v:V} {p:List By} {c:Nat},B7 v p = .error c->c≠0:=by
  intro v p c h;unfold B7 at h;split at h
  ·injection h with h;omega
  ·split at h
   ·rename_i hf;injection h with h;subst h;exact Ck hf
   ·split at h
    ·rename_i hc;injection h with h;subst h;exact hch hc
    ·cases h
 unfold do1 at h;split at h
 ·exact hadd h
 ·split at h
  ·exact hrem h
  ·split at h
   ·unfold CM at h;split at h
    ·cases h
    ·split at h
     ·rename_i hf;injection h with h;subst h;exact Ck hf
     ·split at h
      ·rename_i hc;injection h with h;subst h;exact hch hc
      ·cases h
   ·split at h
    ·unfold Iz at h;split at h
     ·rename_i hf;injection h with h;subst h;exact Ck hf
     ·split at h
      ·cases h
      ·split at h
       ·injection h with h;omega
       ·split at h
        ·rename_i hr;injection h with h;subst h;exact hrem hr
        ·split at h
         ·rename_i ha;injection h with h;subst h;exact hadd ha
         ·cases h
    ·split at h
     ·unfold IA at h;split at h
      ·rename_i hf;injection h with h;subst h;exact Ck hf
      ·exact hadd h
     ·unfold Ix at h;split at h
      ·rename_i hf;injection h with h;subst h;exact Ck hf
      ·split at h
       ·cases h
       ·injection h with h;omega
end Sp
end

section
set_option maxRecDepth 100000
set_option maxHeartbeats 8000000
open Go.RowKit Go.Maps
def NR(f:Nat)(a:Sp.V):Prop:=∀ (F:Nat->Prop) (w:World) (v:Value),Rep f F w v a->Calls Tryz.prog 161 #[v] w fun e w'=>∃p,e = .returned (.pointer (some p))/\Below w.heap.size w w'/\Tr f w.heap.size w' (.pointer (some p)) (Sp.Be f a)
theorem Et{f:Nat}{F:Nat->Prop}{w:World}{v:Value}{d:Sp.V}(h:Rep f F w v d):∃b x n s sl mv,v = .pointer (some ⟨b,0,none⟩)/\VB w b x n s sl mv/\(x != 0) = !Sp.isNull d/\(x != 6) = !Sp.isObj d:=by
 cases f with
 | zero=>exact h.elim
 | succ f =>
  obtain⟨b,rfl,_,h⟩:=h;rcases h with⟨k,hk,rfl,h⟩|⟨n,rfl,h,_⟩|⟨s,rfl,h⟩|⟨es,sl,ps,rfl,h,_⟩|⟨es,m,n,D,rfl,h,_⟩
  ·refine⟨b,k,_,_,_,_,rfl,h,?_⟩
   match k,hk with
   | 0,_=>exact⟨rfl,rfl⟩
   | 1,_=>exact⟨rfl,rfl⟩
   | 2,_=>exact⟨rfl,rfl⟩
  ·exact⟨b,3,_,_,_,_,rfl,h,rfl,rfl⟩
  ·exact⟨b,4,_,_,_,_,rfl,h,rfl,rfl⟩
  ·exact⟨b,5,_,_,_,_,rfl,h,rfl,rfl⟩
  ·exact⟨b,6,_,_,_,_,rfl,h,rfl,rfl⟩
theorem Hg{f:Nat}{d:Sp.V}(h:Sp.isObj d=false):Sp.Be (f+1) d=d:=by
 cases d<;>first|rfl|cases h
theorem N6{f:Nat}{F:Nat->Prop}{w:World}{v:Value}{d:Sp.V}(h:Rep (f+1) F w v d)(hd:Sp.isObj d=false)(hn:Sp.nar (f+1) d) :
  Calls Tryz.prog 161 #[v] w fun e w'=>∃p,e = .returned (.pointer (some p))/\Below w.heap.size w w'/\Tr (f+1) w.heap.size w' (.pointer (some p)) (Sp.Be (f+1) d):=by
 obtain⟨b,x,n,s,sl,mv,rfl,hv,_,e6⟩:=Et h;rw[hd] at e6;have e1:(x != 6)=true:=e6;have c0:=hv.c0;have HC:=Ab (Gv (f+1) d hn F w _ h);obtain⟨E,hE⟩:∃E,E=Sp.Be (f+1) d:=⟨_,rfl⟩
 have HE:=Ab (show E=d by rw[hE,Hg hd]);rw[<- hE];clear h hd hn e6 hE hv
 go_enter func161,ntmps161
 go_wp2_with (fail);refine (Aa HC).mono ?_
 rintro e w' ⟨p,rfl,hb,ht⟩;have HB:=Ab hb;have HT:=Ab ht;clear hb ht
 go_wp2_with (fail)
 go_ret;refine⟨p,rfl,Aa HB,?_⟩
 rw[Aa HE];exact Aa HT
structure MrO(f:Nat)(w:World)(es:List (Lit×Sp.V))(left:Lit->Bool)(cnt:Nat)(wr:World):Prop where
 bel:Below w.heap.size w wr
 sz:w.heap.size+2<=wr.heap.size
 el:∃n' D' es',n'+cnt<=es.length/\wr.ownsMap Tryz.prog 9 RV w.heap.size n' (.map D')/\TrM f (w.heap.size+2) wr D' es' /\
  (∀k,Maps.has (.map es':DataW Unit) k=(Maps.has (.map es:DataW Unit) k && !left k && !Sp.isNull ((DataW.map es).atKey k .nil)))/\(∀k,Maps.has (.map es':DataW Unit) k=true->(DataW.map es').atKey k .nil=Sp.Be f ((DataW.map es).atKey k .nil))
theorem MrO.next{f cnt:Nat}{w wr w1:World}{es:List (Lit×Sp.V)}{left:Lit->Bool}(h:MrO f w es left cnt wr)(hg:wr.grownBy w1 (some (w.heap.size+1))):MrO f w es left cnt w1:=by
 have hs:=h.sz;have hs1:=hg.size;have hk:∀j,j<wr.heap.size->j≠w.heap.size+1->w1.heap[j]? = wr.heap[j]?:=fun j h1 h2=>hg.block j h1 (fun e=>h2 (Option.some.inj e));refine⟨⟨hg.os.trans h.bel.os,hg.tape.trans h.bel.tape,hg.output.trans h.bel.output,by omega,fun j hj=>(hk j (by omega) (by omega)).trans (h.bel.block j hj)⟩,by omega,?_⟩;obtain⟨n',D',es',h1,h2,h3,h4,h5⟩:=h.el;exact⟨n',D',es',h1,AJ h2 (hk _ (by omega) (by omega)),h3.move (fun j hj hl=>hk j hl (by omega)),h4,h5⟩
theorem MZ{k kl:Lit}(h:k≠kl):k.sameKey kl=false:=by
 cases hx:k.sameKey kl
 ·rfl
 ·exact absurd (WideAt.sameKey_eq hx) h
theorem MrO.skip{f cnt cnt1:Nat}{w wr:World}{es:List (Lit×Sp.V)}{left:Lit->Bool}{kl:Lit}(h:MrO f w es left cnt wr)(hc:cnt1<cnt)(hn:Sp.isNull ((DataW.map es).atKey kl .nil)=true):MrO f w es (fun z=>left z && !z.sameKey kl) cnt1 wr:=by
 obtain⟨n',D',es',h1,h2,h3,h4,h5⟩:=h.el;refine⟨h.bel,h.sz,n',D',es',by omega,h2,h3,fun k=>?_,h5⟩;rw[h4];by_cases hkk:k=kl
 ·subst hkk;rw[hn];simp
 ·rw[MZ hkk];simp
theorem MrO.step{f cnt cnt1:Nat}{w w1 w2:World}{es:List (Lit×Sp.V)}{left:Lit->Bool}(h:MrO f w es left cnt w1)(c:Maps.Canon (.map es:DataW Unit))(hc:cnt1<cnt)(hsm:es.length<maxLen)
  {x:Value} {kl:Lit} (hkey:keyOf Tryz.prog 9 x=some kl) (hl:left kl=true) (hh:Maps.has (.map es:DataW Unit) kl=true) (hn:Sp.isNull ((DataW.map es).atKey kl .nil)=false) {p:Addr} (hb:Below w1.heap.size w1 w2) (hv:Tr f w1.heap.size w2 (.pointer (some p)) (Sp.Be f ((DataW.map es).atKey kl .nil))) :
  ∃w3,(Instr.mapUpdate 109 (.map (some w.heap.size)) x (.pointer (some p))).run Tryz.prog w2 = .ok () w3 /\
   MrO f w es (fun z=>left z && !z.sameKey kl) cnt1 w3/\w2.grownBy w3 (some w.heap.size):=by
 have hs:=h.sz;have hs2:=hb.size;obtain⟨n',D',es',h1,h2,h3,h4,h5⟩:=h.el;have h2':=AJ h2 (hb.block _ (B0 h2));obtain⟨w3,hrun,ho3,hg⟩:=h2'.update Cd underlying109 (by omega) hkey (val:=.pointer (some p)) (d:=.held (.pointer (some p))) (ps:=[]) rfl;have hs3:=hg.size;have hk:∀j,j<w2.heap.size->j≠w.heap.size->w3.heap[j]? = w2.heap[j]?:=fun j h1 h2=>hg.block j h1 (fun e=>h2 (Option.some.inj e));refine⟨w3,hrun,⟨⟨hg.os.trans (hb.os.trans h.bel.os),hg.tape.trans (hb.tape.trans h.bel.tape),hg.output.trans (hb.output.trans h.bel.output),by omega,fun j hj=>(hk j (by omega) (by omega)).trans ((hb.block j (by omega)).trans (h.bel.block j hj))⟩,by omega,?_⟩,hg⟩;have kk:=O0 c hh;obtain⟨D2,es2,e1,e2,ht⟩:=h3.put (k:=kl) (w6:=w3) hv (by omega) (fun j j1 j2=>(hk j (by omega) (by omega)).trans (hb.block j j2)) (fun j j1 j2=>hk j j2 (by omega));rw[e1] at ho3;refine⟨n'+1,D2,es2,by omega,ho3,ht,?_,?_⟩
 ·intro k;rw[<- e2];by_cases hkk:k=kl
  ·subst hkk;rw[has_put_same ⟨_,rfl⟩ kk,hh,hl,WideAt.sameKey_self kk,hn];rfl
  ·rw[has_put_other hkk,h4,MZ hkk];simp
 ·intro k;rw[<- e2];by_cases hkk:k=kl
  ·subst hkk;intro _;rw[atKey_put_same ⟨_,rfl⟩ kk]
  ·rw[has_put_other hkk,atKey_put_other hkk];exact h5 k
def Sp.pureM(f:Nat)(es:List (Lit×Sp.V)):List (Lit×Sp.V):=(es.filter fun q=>!Sp.isNull q.2).map fun q=>(q.1,Sp.Be f q.2)
theorem IJ{f:Nat}{es:List (Lit×Sp.V)}(c:Maps.Canon (.map es:DataW Unit)):Maps.Canon (.map (Sp.pureM f es):DataW Unit):=by
 obtain⟨_,he,hp,hk⟩:=c;injection he with he;subst he;refine⟨_,rfl,?_,fun p hp'=>?_⟩
 ·unfold Sp.pureM;rw[List.pairwise_map];exact hp.filter _
 ·unfold Sp.pureM at hp';obtain⟨q,hq,rfl⟩:=List.mem_map.1 hp';exact hk q (List.mem_filter.1 hq).1
theorem Hh{f:Nat}{es:List (Lit×Sp.V)}(c:Maps.Canon (.map es:DataW Unit))(k:Lit):Maps.has (.map (Sp.pureM f es):DataW Unit) k=(Maps.has (.map es:DataW Unit) k && !Sp.isNull ((DataW.map es).atKey k .nil))/\(Maps.has (.map (Sp.pureM f es):DataW Unit) k=true->(DataW.map (Sp.pureM f es)).atKey k .nil=Sp.Be f ((DataW.map es).atKey k .nil)):=by
 have c2:=IJ (f:=f) c;obtain⟨_,he,hp,hk⟩:=c;injection he with he;subst he;have hap:=apart_of_rising hp;obtain⟨_,he2,hp2,hk2⟩:=c2;injection he2 with he2;subst he2;have hap2:=apart_of_rising hp2;have key:∀q∈Sp.pureM f es,∃p∈es,q.1=p.1/\Sp.isNull p.2=false/\q.2=Sp.Be f p.2:=fun q hq=>by
  unfold Sp.pureM at hq;obtain⟨p,hp,rfl⟩:=List.mem_map.1 hq;have h2:=List.mem_filter.1 hp;exact⟨p,h2.1,rfl,by simpa using h2.2,rfl⟩
 constructor
 ·rw[Bool.eq_iff_iff,Bool.and_eq_true];constructor
  ·intro h;obtain⟨q,hq,hs⟩:=List.any_eq_true.1 (show (Sp.pureM f es).any (fun q=>q.1.sameKey k)=true from h);obtain⟨p,hp1,e1,e2,_⟩:=key q hq;have ek:p.1=k:=by rw[<- e1];exact WideAt.sameKey_eq hs
   refine⟨List.any_eq_true.2 ⟨p,hp1,by rw[<- e1];exact hs⟩,?_⟩;have:=WideAt.atKey_mem .nil (hk p hp1) hap (show (p.1,p.2)∈es from hp1);rw[<- ek,this,e2];rfl
  ·rintro⟨h1,h2⟩;obtain⟨p,hp1,hs⟩:=List.any_eq_true.1 (show es.any (fun q=>q.1.sameKey k)=true from h1);have ek:p.1=k:=WideAt.sameKey_eq hs;have:=WideAt.atKey_mem .nil (hk p hp1) hap (show (p.1,p.2)∈es from hp1);rw[<- ek,this] at h2;exact List.any_eq_true.2 ⟨(p.1,Sp.Be f p.2),List.mem_map.2 ⟨p,List.mem_filter.2 ⟨hp1,h2⟩,rfl⟩,hs⟩
 ·intro h;obtain⟨q,hq,hs⟩:=List.any_eq_true.1 (show (Sp.pureM f es).any (fun q=>q.1.sameKey k)=true from h);obtain⟨p,hp1,e1,e2,e3⟩:=key q hq;have ek:q.1=k:=WideAt.sameKey_eq hs;have h1:=WideAt.atKey_mem .nil (hk2 q hq) hap2 (show (q.1,q.2)∈Sp.pureM f es from hq);have h2:=WideAt.atKey_mem .nil (hk p hp1) hap (show (p.1,p.2)∈es from hp1);rw[ek] at h1;rw[<- e1,ek] at h2;rw[h1,h2,e3]
theorem MrO.done{f cnt:Nat}{w wr w2:World}{es:List (Lit×Sp.V)}{left:Lit->Bool}(h:MrO f w es left cnt wr)(c:Maps.Canon (.map es:DataW Unit))(hl:∀k,left k=false)(hb:Below wr.heap.size wr w2)(hv:VB w2 wr.heap.size 6 n0 [] (.slice none 0 0) (.map (some w.heap.size))):Tr (f+1) w.heap.size w2 (.pointer (some ⟨wr.heap.size,0,none⟩)) (Sp.Be (f+1) (.map es)):=by
 obtain⟨n',D',es',h1,h2,h3,h4,h5⟩:=h.el;have hs:=h.sz;have c':=h3.pt.canon (h2.canon Cd);have e:es'=Sp.pureM f es:=Rr c' (IJ c) (fun k=>by rw[h4,hl,(Hh c k).1];simp) (fun k hk=>by
  rw[h5 k hk,(Hh c k).2 (by rw[(Hh c k).1];rw[h4,hl] at hk;simpa using hk)])
 subst e;have h3':=h3.move (w':=w2) fun j _ hj=>hb.block j hj;obtain⟨al,g1,g2,g3,g4⟩:=h3;have hlt:=g1.lts;have g1':Pt (Ae f w2) D' al:=Pt.mem (fun u p hp hu=>hu.move fun k hkc=>hb.block k (hlt k (List.mem_flatMap.2 ⟨p,hp,hkc⟩))) g1;refine⟨Sp.nd wr.heap.size w.heap.size (.map al),⟨wr.heap.size,w.heap.size,_,rfl,rfl,Or.inr (Or.inr (Or.inr (Or.inr ⟨al,n',D',rfl,hv,AJ h2 (hb.block _ (B0 h2)),g1'⟩)))⟩,?_,?_,?_⟩
 ·rw[Sp.Ba,g2];rfl
 ·rw[Sp.Bi,List.nodup_cons,List.nodup_cons];refine⟨fun hx=>?_,fun hx=>by have:=g4 _ hx;omega,g3⟩;rcases List.mem_cons.1 hx with e|hx
  ·omega
  ·have:=hlt _ hx;omega
 ·rw[Sp.Bi];intro k hk;rcases List.mem_cons.1 hk with rfl|hk
  ·omega
  ·rcases List.mem_cons.1 hk with rfl|hk
   ·omega
   ·have:=g4 k hk;omega
theorem PQ{f:Nat}{F:Nat->Prop}{w:World}{b m n:Nat}{D:List (Lit×DataW Value)}{es:List (Lit×Sp.V)}(hS:∀k,Maps.has (.map es:DataW Unit) k=true->NR f ((DataW.map es).atKey k .nil))(h:VB w b 6 n0 [] (.slice none 0 0) (.map (some m)))(ho:w.ownsMap Tryz.prog 9 RV m n (.map D))(hp:Pt (Rep f F w) D es)(hsm:es.length<maxLen) :
  Calls Tryz.prog 161 #[.pointer (some ⟨b,0,none⟩)] w fun e w'=>∃p,e = .returned (.pointer (some p))/\Below w.heap.size w w'/\Tr (f+1) w.heap.size w' (.pointer (some p)) (Sp.Be (f+1) (.map es)):=by
 have hml:=Cd;have hmm:=@run_makeMap Tryz.prog;have c0:=h.c0;have c6:=h.c6;have hbl:=h.lt;have hmb:=B0 ho;have hl:=hp.size;have hsz:Maps.size (.map D:DataW Value)=es.length:=hl;have C1:=Ab (hp.canon (ho.canon hml));have HO1:Hid ((w.alloc (.map #[] 0)).ownsMap Tryz.prog 9 RV m n (.map D)):=Ab (ho.alloc _);have d6:(w.alloc (.map #[] 0)).cell? ⟨b,6,none⟩=some (.map (some m)):=(World.cell?_of_block (w:=w) (a:=⟨b,6,none⟩) (Below.heap_alloc w _ b hbl)).trans c6;have hstart:Hid (∀w0,(w.alloc (.map #[] 0)).grownBy w0 none->w0.heap.size=w.heap.size+2->MrO f w es (has (.map D:DataW Value)) (Maps.size (.map D:DataW Value)) w0):=by
  intro w0 hg hs;have hmade:=World.ownsMap_made w Tryz.prog 9 RV;have hk:∀j,j<w.heap.size+1->w0.heap[j]? = (w.alloc (.map #[] 0)).heap[j]?:=fun j hj=>hg.block j (by simp;omega) (by simp);have hb2:Below w.heap.size w (w.alloc (.map #[] 0)):=(Below.refl _ _).alloc (Nat.le_refl _) _;refine⟨⟨hg.os.trans hb2.os,hg.tape.trans hb2.tape,hg.output.trans hb2.output,by omega,fun j hj=>(hk j (by omega)).trans (hb2.block j hj)⟩,by omega,0,[],[],by omega,AJ hmade (hk _ (by omega)),TrM.nil _ _ _,?_,?_⟩
  ·intro k;rw[hp.has k];cases Maps.has (.map es:DataW Unit) k<;>rfl
  ·intro k hk;cases hk
 have HP:=Ab hp;have HS:=Ab hS;have HSM:=Ab hsm;obtain⟨E,hE⟩:∃E,E=Sp.Be (f+1) (.map es):=⟨_,rfl⟩
 rw[<- hE];have HE:=Ab hE;clear hp hS h ho hsm hl hE
 go_enter func161,ntmps161
 go_wp2_with (first
  | (at_range;refine wpList_range_own _ rfl _ 109 rfl 9 80 hml underlying109 RV m n _ rfl (Aa HO1) ?_;intro w0 hrg0 hg0 hs0)
  | go_in)
 have e0:(w.alloc (.map #[] 0)).heap.size=w.heap.size+1:=by simp
 have hcl:=Ab (Aa hstart w0 hg0 (by rw[hs0];simp));rw[e0] at hrg0;clear hg0 hs0 hstart;simp only[Act.put,List.setIfInBounds_toArray,List.set_cons_zero,List.set_cons_succ,e0]
 go_loopw [4] (fun _ wr=>∃ (left:Lit->Bool) (cnt:Nat),wr.ranges Tryz.prog 9 RV m (w.heap.size+1) n (.map D) left cnt/\Hid (MrO f w es left cnt wr))
  (fun _ wr=>wr.rangeLeft m (w.heap.size+1))
 case atStart=>exact⟨_,_,hrg0,hcl⟩
 case round =>
  obtain⟨left,cnt,hrg,G⟩:=hrel
  go_wp2_with (first
   | (at_next;refine wpList_next_ranges _ rfl _ rfl 9 hml RV id id (fun key _ _=>⟨key,rfl⟩) (fun v _ _=>⟨v,rfl⟩) m (w.heap.size+1) n _ _ _ rfl hrg ?_ ?_)
   | go_in)
  ·intro _ hl0;have HD:=Ab (fun (w2:World) (hb:Below wr.heap.size wr w2) (hv:VB w2 wr.heap.size 6 n0 [] (.slice none 0 0) (.map (some w.heap.size)))=>(Aa G).done (Aa C1) hl0 hb hv);have HB:=Ab (Aa G).bel;clear hrg0 hrg
   go_wp2_with (fail)
   go_ret;have hnew:∀o:Obj,Below wr.heap.size wr (wr.alloc o):=fun o=>(Below.refl _ _).alloc (Nat.le_refl _) _
   refine⟨_,rfl,(Aa HB).trans ((hnew _).mono (Aa HB).size),?_⟩;rw[Aa HE];exact Aa HD _ (hnew _) (heap_alloc_new wr _)
  ·intro x c kl yd yp w1 cnt1 hkey hlx hv hat hrg1 hlt hg1 hs1 hen;have hv2:DataW.held c=yd:=congrArg Prod.fst (Option.some.inj hv);subst hv2;have hasD:Maps.has (.map D:DataW Value) kl=true:=has_true_of_atKey hat
   obtain⟨c',e1,hrep⟩:=(Aa HP).at kl hasD;have e2:c'=c:=by
    have e3:=(e1 .nil).symm.trans (hat .nil);injection e3
   subst e2;have hasE:Maps.has (.map es:DataW Unit) kl=true:=by rw[<- (Aa HP).has kl];exact hasD
   have G1:=Ab ((Aa G).next hg1);obtain⟨pb,pk,pn,ps,psl,pmv,hcp,hpv,hk0,_⟩:=Et hrep;subst hcp;have ck:w1.cell? ⟨pb,0,none⟩=some (.int .i64 pk):=(hpv.kept ((Aa G1).bel.block pb hpv.lt)).c0;have HREP:=Ab hrep;have HAS:=Ab hasE;have HHK:=Ab hkey;have HLX:=Ab hlx;have HLT:=Ab hlt;cases hnl:Sp.isNull ((DataW.map es).atKey kl .nil) with
   | true =>
    rw[hnl] at hk0;have ek:(pk != 0)=false:=hk0;have G2:=Ab ((Aa G1).skip hlt hnl);clear hat hrep hasE e1 hasD hv hk0 hnl hpv
    go_wp2_with (fail)
    go_roundw
    case rel=>exact⟨_,cnt1,hrg1,G2⟩
    case measure=>rw[hrg1.left_eq,hrg.left_eq];exact hlt
   | false =>
    rw[hnl] at hk0;have ek:(pk != 0)=true:=hk0;have HUP:=Ab (fun (w2:World) (p:Addr) (hb:Below w1.heap.size w1 w2) (hv:Tr f w1.heap.size w2 (.pointer (some p)) (Sp.Be f ((DataW.map es).atKey kl .nil)))=>(Aa G1).step (Aa C1) hlt (Aa HSM) hkey hlx hasE hnl hb hv);have HC:=Ab (Aa HS kl hasE F w1 _ (hrep.bel (Aa G1).bel));clear hat hrep hasE e1 hasD hv hk0 hnl hpv
    go_wp2_with (fail);refine (Aa HC).mono ?_
    rintro e w2 ⟨p,rfl,hb2,hv2⟩;obtain⟨w3,hrun,hcl3,hg3⟩:=Aa HUP w2 p hb2 hv2;have hrg3:=(hrg1.kept (BK hb2) (by simp) (by simp)).kept hg3 (fun e=>by have:=Option.some.inj e;omega) (fun e=>by have:=Option.some.inj e;omega);have HCL:=Ab hcl3;clear hb2 hv2 hcl3 hg3 HC HUP
    go_wp2_with (fail)
    go_roundw
    case rel=>exact⟨_,cnt1,hrg3,HCL⟩
    case measure=>rw[hrg3.left_eq,hrg.left_eq];exact Aa HLT
theorem J1:∀ (f:Nat) (a:Sp.V),Sp.nar f a->NR f a
 | 0,_,_=>fun _ _ _ h=>h.elim
 | f+1,a,hn=>fun F w v h=>by
  cases hob:Sp.isObj a with
  | false=>exact N6 h hob hn
  | true =>
   obtain⟨es,rfl⟩:∃es,a = .map es:=by
    cases a<;>first|exact⟨_,rfl⟩|cases hob
   obtain⟨b,rfl,_,h⟩:=h;obtain⟨n1,n2⟩:=hn;rcases h with⟨k,_,e,_⟩|⟨n,e,_⟩|⟨s,e,_⟩|⟨es',sl,ps,e,_⟩|⟨es',m,n,D,e,hv,_,ho,hp⟩
   ·cases e
   ·cases e
   ·cases e
   ·cases e
   ·injection e with e;subst e;exact PQ (fun k hk=>by
     obtain⟨p,hpm,e⟩:=NN hk;rw[e];exact J1 f _ (n2 p hpm)) hv ho hp (by unfold maxLen;omega)
end

section
open Go.RowKit Go.Maps
namespace Sp
def AW(m:Option V->List By->V->V×List Opn)(s:List By)(q:Lit×V)(es:List (Lit×V)):List (Lit×V)×List Opn :=
 if isNull q.2 then (match AG es q.1 with
  | none=>(es,[])
  | some o=>(mdel q.1 es,[(0,s++[Ez q.1],o)]))
 else (mput q.1 (m (AG es q.1) (s++[Ez q.1]) q.2).1 es,(m (AG es q.1) (s++[Ez q.1]) q.2).2)
def AU(m:Option V->List By->V->V×List Opn)(s:List By):List (Lit×V)->List (Lit×V)->List (Lit×V)×List Opn
 | [],es=>(es,[])
 | q::r,es=>((AU m s r (AW m s q es).1).1,(AW m s q es).2++(AU m s r (AW m s q es).1).2)
theorem D8(m:Option V->List By->V->V×List Opn)(s:List By):∀ (l es:List (Lit×V)),GE m s l es=(.map (AU m s l es).1,(AU m s l es).2)
 | [],es=>rfl
 | (k,q)::r,es=>by
  unfold GE AU AW;by_cases hn:isNull q=true
  ·rw[if_pos hn,if_pos hn];cases hg:AG es k with
   | none=>simp only;rw[D8];rfl
   | some o=>simp only;rw[D8];rfl
  ·rw[if_neg hn,if_neg hn];simp only;rw[D8]
theorem Hr(m:Option V->List By->V->V×List Opn)(s:List By)(q:Lit×V):∀ (l es:List (Lit×V)),AU m s (l++[q]) es=((AW m s q (AU m s l es).1).1,(AU m s l es).2++(AW m s q (AU m s l es).1).2)
 | [],es=>by simp[AU]
 | a::l,es=>by
  simp only[List.cons_append,AU];rw[Hr m s q l];simp only[List.append_assoc]
theorem Ci{es:List (Lit×V)}{k:By}{c:V}(hs:Bk es)(h:(Lit.string k,c)∈es):AG es (.string k)=some c:=by
 have hap:=apart_of_rising hs.1;have h1:Maps.has (.map es:V) (.string k)=true:=List.any_eq_true.2 ⟨_,h,DK.2 rfl⟩;unfold AG;rw[if_pos h1,WideAt.atKey_mem .nil (by exact trivial) hap h]
theorem DO{es:List (Lit×V)}{k:By}(h:∀p∈es,p.1≠Lit.string k):AG es (.string k)=none:=by
 unfold AG;rw[if_neg];intro h1;obtain⟨p,hp,h2⟩:=List.any_eq_true.1 (show (es.any fun p=>p.1.sameKey (.string k))=true from h1);exact h p hp (WideAt.sameKey_eq h2)
theorem Ey{α:Type}(es:List (Lit×DataW α))(k:By):(∃c,(Lit.string k,c)∈es) \/ ∀p∈es,p.1≠Lit.string k:=by
 by_cases h:∃p∈es,p.1=Lit.string k
 ·obtain⟨p,hp,e⟩:=h;exact Or.inl ⟨p.2,e▸hp⟩
 ·exact Or.inr fun p hp e=>h ⟨p,hp,e⟩
theorem DE(k:By):(Lit.string k).before (.string k)=false:=by
 cases h:(Lit.string k).before (.string k) with
 | false=>rfl
 | true=>exact absurd (E2 k k h) (List.lt_irrefl k)
theorem IV{a b:By}(h:(Lit.string a).before (.string b)=true):(Lit.string b).before (.string a)=false:=by
 cases h2:(Lit.string b).before (.string a) with
 | false=>rfl
 | true=>exact absurd (List.lt_trans (E2 a b h) (E2 b a h2)) (List.lt_irrefl a)
theorem FZ{α:Type}{k:By}{x:DataW α}:∀ {r:List (Lit×DataW α)},(∀p∈r,(Lit.string k).before p.1=true)->DataW.insert (.string k,x) r=(.string k,x)::r
 | [],_=>rfl
 | a::r,h=>by
  unfold DataW.insert;rw[if_pos (h a List.mem_cons_self)]
theorem IL{α:Type}{k:By}{c x:DataW α}:∀ {es:List (Lit×DataW α)} {i:Nat},Bk es->es[i]? = some (.string k,c)->(es.modify i fun p=>(p.1,x))=mput (.string k) x es
 | [],i,_,h=>by simp at h
 | p::r,0,hs,h=>by
  obtain rfl:p=(.string k,c):=by simpa using h
  have h1:=List.pairwise_cons.1 hs.1;have hr:∀q∈r,q.1≠Lit.string k:=fun q hq e=>by
   have:=h1.1 q hq;rw[e] at this;rw[DE] at this;cases this
  unfold mput;rw[List.filter_cons,if_neg (by simp[DK.2 rfl]),F0 hr,FZ fun q hq=>h1.1 q hq];rfl
 | p::r,i+1,hs,h=>by
  have h1:=List.pairwise_cons.1 hs.1;have hm:(Lit.string k,c)∈r:=List.mem_of_getElem? (by simpa using h);have hb:=h1.1 _ hm;have hne:p.1≠Lit.string k:=fun e=>by
   rw[e] at hb;rw[DE] at hb;cases hb
  have ih:=IL (x:=x) (es:=r) (i:=i) ⟨h1.2,fun q hq=>hs.2 q (List.mem_cons_of_mem _ hq)⟩ (by simpa using h);have hnb:(Lit.string k).before p.1=false:=by
   obtain⟨s,e⟩:=hs.2 p List.mem_cons_self;rw[e] at hb |-;exact IV hb
  rw[List.modify_succ_cons,ih];unfold mput;rw[List.filter_cons,if_pos (by rw[sameKey_ne hne];rfl)];conv=>rhs;unfold DataW.insert
  rw[if_neg (by rw[hnb];decide)]
theorem MH{j:Nat}{c m:A}(n:A)(hc:(AL m)[j]? = some c):∀ {p:List Nat} {T:A},sub p T=some m->put (p++[j]) n T=put p (kid m j n) T
 | [],T,h=>by
  obtain rfl:T=m:=by simpa[sub] using h
  rw[List.nil_append,BO n hc];rfl
 | i::r,T,h=>by
  obtain⟨e,he,hr⟩:=Cm h;rw[List.cons_append,BO _ he,BO _ he,MH n hc hr]
theorem WC{f:Nat}{p:List Nat}{T T1 T2 N N1 m0:A}(h0:sub p T=some m0)(h1:er (f+p.length) T1=er (f+p.length) (put p N T))(h2:∀n1,sub p T1=some n1->er (f+p.length) T2=er (f+p.length) (put p N1 T1)) :
  (∃n2,sub p T2=some n2/\er f n2=er f N1) /\ ∀n2,er f n2=er f N1->er (f+p.length) T2=er (f+p.length) (put p n2 T):=by
 have hs:(sub p T1).map (er f)=some (er f N):=by
  rw[<- EX,h1,EX,Ii _ h0];rfl
 obtain⟨n1,hn1,e1⟩:=Option.map_eq_some_iff.1 hs;have h2':=h2 n1 hn1;have h0':sub p (er (f+p.length) T)=some (er f m0):=by rw[EX,h0];rfl
 have e2:er (f+p.length) T2=put p (er f N1) (er (f+p.length) T):=by
  rw[h2',BQ p f N1 hn1,h1,BQ p f N h0,Ku _ _ h0']
 refine⟨?_,fun n2 hn=>?_⟩
 ·have hs2:(sub p T2).map (er f)=some (er f N1):=by
   rw[<- EX,e2,Ii _ h0']
  exact Option.map_eq_some_iff.1 hs2
 ·rw[e2,BQ p f n2 h0,hn]
end Sp
theorem AV.kid{m c:Sp.A}{i:Nat}{key:Sp.By}(h:AV m i key c):∃j,(Sp.AL m)[j]? = some c /\ ∀x,Sp.kid m j x=Sp.Bx i key x m:=by
 rcases h with⟨b,g,al,rfl,h⟩|⟨b,g,es,rfl,h,hs⟩
 ·exact⟨i,h,fun x=>by rw[Sp.KB];unfold Sp.Bx;rw[Sp.C0]⟩
 ·obtain⟨j,hj⟩:=List.getElem?_of_mem h;refine⟨j,by rw[Sp.BI,List.getElem?_map,hj];rfl,fun x=>?_⟩;rw[Sp.KA,Sp.IL hs hj];unfold Sp.Bx;rw[Sp.Cy]
end

section
open Go.RowKit Go.Maps
namespace Sp
theorem Kw:∀l:By,((pcs l).map fun t=>t.length+1).sum=l.length+1
 | []=>rfl
 | c::r=>by
  have ih:=Kw r;unfold pcs;split
  ·simp[ih];omega
  ·cases h:pcs r with
   | nil=>rw[h] at ih;simp at ih
   | cons p ps=>rw[h] at ih;simp at ih |-; omega
theorem W6(n:Nat):∀ (l k:By),l.length<=n->une l=some k->k.length<=l.length:=by
 induction n with
 | zero =>
  intro l k hl h;obtain rfl:l=[]:=List.eq_nil_of_length_eq_zero (by omega);injection h with h;subst h;exact Nat.le_refl _
 | succ n ih =>
  intro l k hl h;cases l with
  | nil=>injection h with h;subst h;exact Nat.le_refl _
  | cons c r =>
   rw[Ee] at h;simp only[List.length_cons] at hl;split at h
   ·split at h
    ·rename_i q;cases hq:une q with
     | none=>rw[hq] at h;cases h
     | some k' =>
      rw[hq] at h;injection h with h;subst h;have:=ih q k' (by simp only[List.length_cons] at hl;omega) hq;simp only[List.length_cons];omega
    ·rename_i q;cases hq:une q with
     | none=>rw[hq] at h;cases h
     | some k' =>
      rw[hq] at h;injection h with h;subst h;have:=ih q k' (by simp only[List.length_cons] at hl;omega) hq;simp only[List.length_cons];omega
    ·cases h
   ·cases hq:une r with
    | none=>rw[hq] at h;cases h
    | some k' =>
     rw[hq] at h;injection h with h;subst h;have:=ih r k' (by omega) hq;simp only[List.length_cons];omega
theorem J5:∀ (ts ks:List By),keysOf ts=some ks->(ks.map fun t=>t.length+1).sum<=(ts.map fun t=>t.length+1).sum
 | [],ks,h=>by injection h with h;subst h;exact Nat.le_refl _
 | t::r,ks,h=>by
  unfold keysOf at h;split at h
  ·cases h
  ·rename_i k hk;cases hr:keysOf r with
   | none=>rw[hr] at h;cases h
   | some ks' =>
    rw[hr] at h;injection h with h;subst h;have h1:=W6 t.length t k (Nat.le_refl _) hk;have h2:=J5 r ks' hr;simp only[List.map_cons,List.sum_cons];omega
theorem Ti{l:By}{ks:List By}(h:toks l=some ks):(ks.map fun t=>t.length+1).sum<=l.length:=by
 unfold toks at h;split at h
 ·split at h
  ·rename_i r hp;have h1:=Kw l;rw[hp] at h1;have h2:=J5 _ _ h;simp only[List.map_cons,List.sum_cons,List.length_nil] at h1;omega
  ·cases h
 ·cases h
theorem Gp{c:Nat}(hc:Sc c)(b:Nat)(hb:b<128):(c=b/\encN c=[UInt8.ofNat b])\/(c≠b /\ ∀x∈encN c,x≠UInt8.ofNat b):=by
 by_cases h:c=b
 ·subst h;exact Or.inl ⟨rfl,C4 c hb⟩
 ·refine Or.inr ⟨h,fun x hx e=>?_⟩;have hbn:(UInt8.ofNat b).toNat=b:=by simp;omega
  by_cases h1:c<128
  ·rw[show encN c=[UInt8.ofNat c] from C4 c h1] at hx;have h2:UInt8.ofNat c=UInt8.ofNat b:=(List.mem_singleton.1 hx).symm.trans e;have h3:=congrArg UInt8.toNat h2;rw[hbn] at h3;simp at h3;omega
  ·have h2:=(Fz c (by omega) hc []).1 x hx;rw[e,hbn] at h2;omega
theorem XX{c:Nat}(hc:Sc c):∃x r,encN c=x::r:=by
 by_cases h1:c<128
 ·exact⟨_,_,C4 c h1⟩
 ·have h2:=(Fz c (by omega) hc []).2.2;cases he:encN c with
  | nil =>
   have h3:2<=(encN c).length:=by first|exact h2|exact h2.1
   rw[he] at h3;simp at h3
  | cons x r=>exact⟨x,r,rfl⟩
theorem OR{a:By}(h:∀x∈a,x≠47)(l:By):∃p ps,pcs l=p::ps/\pcs (a++l)=(a++p)::ps:=by
 induction a with
 | nil =>
  cases hp:pcs l with
  | nil=>have:=Kw l;rw[hp] at this;simp at this
  | cons p ps=>exact⟨p,ps,rfl,hp⟩
 | cons c r ih =>
  obtain⟨p,ps,h1,h2⟩:=ih fun x hx=>h x (by simp[hx]);refine⟨p,ps,h1,?_⟩;show pcs (c::(r++l))=_;unfold pcs;rw[if_neg (h c (by simp)),h2];rfl
theorem Kq{c:Nat}(hc:Sc c){s:By}(h:Ut s):Ut (encN c++s):=by
 obtain⟨cs,h1,rfl⟩:=h;exact⟨c::cs,fun x hx=>(List.mem_cons.1 hx).elim (fun e=>e▸hc) (h1 x),by simp⟩
theorem Rm:∀ (cs:List Nat),(∀c∈cs,Sc c) -> ∀t∈pcs (cs.flatMap encN),Ut t
 | [],_,t,ht=>by
  obtain rfl:t=[]:=by simpa[pcs] using ht
  exact EN
 | c::cs,h,t,ht=>by
  have hc:=h c (by simp);have ih:=Rm cs fun x hx=>h x (by simp[hx]);rw[List.flatMap_cons] at ht;rcases Gp hc 47 (by omega) with⟨rfl,e⟩|⟨hne,e⟩
  ·rw[e] at ht;have e2:pcs ([UInt8.ofNat 47]++cs.flatMap encN)=[]::pcs (cs.flatMap encN):=by show pcs (47::cs.flatMap encN)=_;rw[pcs,if_pos rfl]
   rw[e2] at ht;rcases List.mem_cons.1 ht with rfl|ht
   ·exact EN
   ·exact ih t ht
  ·obtain⟨p,ps,h1,h2⟩:=OR e (cs.flatMap encN);rw[h2] at ht;rw[h1] at ih;rcases List.mem_cons.1 ht with rfl|ht
   ·exact Kq hc (ih p (by simp))
   ·exact ih t (by simp[ht])
theorem Vu{a:By}(h:∀x∈a,x≠126)(l:By):une (a++l)=(une l).map (a ++ ·):=by
 induction a with
 | nil=>show une l=_;cases une l<;>rfl
 | cons c r ih =>
  show une (c::(r++l))=_;rw[Ee,if_neg (h c (by simp)),ih fun x hx=>h x (by simp[hx])];cases une l<;>rfl
theorem WY(n:Nat):∀ (cs:List Nat),cs.length<=n->(∀c∈cs,Sc c) -> ∀k,une (cs.flatMap encN)=some k->Ut k:=by
 induction n with
 | zero =>
  intro cs hl _ k hk;obtain rfl:cs=[]:=List.eq_nil_of_length_eq_zero (by omega);injection hk with hk;subst hk;exact EN
 | succ n ih =>
  intro cs hl h k hk;cases cs with
  | nil=>injection hk with hk;subst hk;exact EN
  | cons c cs =>
   have hc:=h c (by simp);simp only[List.length_cons] at hl;rw[List.flatMap_cons] at hk;rcases Gp hc 126 (by omega) with⟨rfl,e⟩|⟨hne,e⟩
   ·rw[e] at hk;have hk2:une (126::cs.flatMap encN)=some k:=hk;rw[Ee,if_pos rfl] at hk2;cases cs with
    | nil=>cases hk2
    | cons c2 cs =>
     have hc2:=h c2 (by simp);have h3:∀c∈cs,Sc c:=fun x hx=>h x (by simp[hx]);simp only[List.length_cons] at hl;rw[List.flatMap_cons] at hk2;have hgo:∀ (z:Nat) (hz:Sc z) (u:By) ,une (cs.flatMap encN)=some u->Ut (encN z++u):=fun z hz u hu=>Kq hz (ih cs (by omega) h3 u hu);have h126:Sc 126:=Or.inl (by omega);have h47:Sc 47:=Or.inl (by omega);rcases Gp hc2 48 (by omega) with⟨rfl,e2⟩|⟨hne2,e2⟩
     ·rw[e2] at hk2;have hk3:(une (cs.flatMap encN)).map (126 :: ·)=some k:=hk2
      cases hu:une (cs.flatMap encN) with
      | none=>rw[hu] at hk3;cases hk3
      | some u =>
       rw[hu] at hk3;injection hk3 with hk3;subst hk3;have:=hgo 126 h126 u hu;rw[show encN 126=[126] from C4 126 (by omega)] at this;exact this
     ·rcases Gp hc2 49 (by omega) with⟨rfl,e3⟩|⟨hne3,e3⟩
      ·rw[e3] at hk2;have hk3:(une (cs.flatMap encN)).map (47 :: ·)=some k:=hk2
       cases hu:une (cs.flatMap encN) with
       | none=>rw[hu] at hk3;cases hk3
       | some u =>
        rw[hu] at hk3;injection hk3 with hk3;subst hk3;have:=hgo 47 h47 u hu;rw[show encN 47=[47] from C4 47 (by omega)] at this;exact this
      ·obtain⟨x,r,hx⟩:=XX hc2;rw[hx] at hk2 e2 e3;have a1:x≠48:=e2 x (by simp);have a2:x≠49:=e3 x (by simp)
       exfalso
       revert hk2
       show (match x::(r++cs.flatMap encN) with|48::q=>(une q).map (126 :: ·)|49::q=>(une q).map (47 :: ·)|_=>none)=some k->False
       split
       ·rename_i q hq;injection hq with hq;exact absurd hq a1
       ·rename_i q hq;injection hq with hq;exact absurd hq a2
       ·intro h;cases h
   ·have e4:∀x∈encN c,x≠(126:UInt8):=e;rw[Vu e4] at hk;cases hu:une (cs.flatMap encN) with
    | none=>rw[hu] at hk;cases hk
    | some u =>
     rw[hu] at hk;injection hk with hk;subst hk;exact Kq hc (ih cs (by omega) (fun x hx=>h x (by simp[hx])) u hu)
theorem Lu:∀ (ts ks:List By),(∀t∈ts,Ut t)->keysOf ts=some ks -> ∀k∈ks,Ut k
 | [],ks,_,h,k,hk=>by injection h with h;subst h;cases hk
 | t::r,ks,ht,h,k,hk=>by
  unfold keysOf at h;split at h
  ·cases h
  ·rename_i k1 hk1;cases hr:keysOf r with
   | none=>rw[hr] at h;cases h
   | some ks' =>
    rw[hr] at h;injection h with h;subst h;rcases List.mem_cons.1 hk with rfl|hk
    ·obtain⟨cs,h1,rfl⟩:=ht t (by simp);exact WY cs.length cs (Nat.le_refl _) h1 _ hk1
    ·exact Lu r ks' (fun t ht'=>ht t (by simp[ht'])) hr k hk
theorem Vy{l:By}{ks:List By}(hl:Ut l)(h:toks l=some ks):∀k∈ks,Ut k:=by
 obtain⟨cs,h1,rfl⟩:=hl;have h2:=Rm cs h1;unfold toks at h;split at h
 ·split at h
  ·rename_i r hp;rw[hp] at h2;exact Lu r ks (fun t ht=>h2 t (by simp[ht])) h
  ·cases h
 ·cases h
theorem Vz{l:By}{ks:List By}(hl:Ut l)(hn:l.length<=100000)(h:toks l=some ks):PathOk ks:=⟨Nat.le_trans (Ti h) hn,Vy hl h⟩
end Sp
end

section
open Go.RowKit Go.Maps
theorem Ht{nm:Sp.By}{hv hf:Bool}{k:Nat}(h:Sp.Gg nm hv hf=some k):k<6/\((k=0\/k=2\/k=5)->hv=true)/\((k=3\/k=4)->hf=true):=by
 unfold Sp.Gg at h
 repeat' split at h
 all_goals first
  | (injection h with h;subst h;simp_all)
  | cases h
namespace Sp
theorem Uz(c:UInt8):1<=(Cr c).length:=by
 unfold Cr
 repeat' split
 all_goals simp
theorem O8:∀s:By,s.length<=(A7 s).length
 | []=>Nat.le_refl _
 | c::r=>by
  have h1:=Uz c;have h2:=O8 r;simp only[A7,List.length_append,List.length_cons];omega
theorem Ij(s:By):s.length<=(Ah s).length:=by
 have:=O8 s;simp[Ah];omega
theorem Xa{f:Nat}{s:By}:s.length<=(can (f+1) (Az s)).length:=by rw[Gs];exact Ij s
theorem UC{f:Nat}{es:List V}:es.length<=(can (f+1) (Ar es)).length /\ ∀e∈es,(can f e).length<=(can (f+1) (Ar es)).length:=by
 have h2:(es.map fun e=>(can f e).length+1).sum<=(Ai (es.map (can f))).length+1:=by
  have h2:=GK (es.map (can f));rw[List.map_map] at h2;exact h2
 have h3:∀l:List V,l.length<=(l.map fun e=>(can f e).length+1).sum /\ ∀e∈l,(can f e).length<=(l.map fun e=>(can f e).length+1).sum:=fun l=>by
  induction l with
  | nil=>exact⟨Nat.le_refl _,fun e he=>by cases he⟩
  | cons a r ih =>
   obtain⟨i1,i2⟩:=ih;simp only[List.map_cons,List.sum_cons,List.length_cons];refine⟨by omega,fun e he=>?_⟩;rcases List.mem_cons.1 he with rfl|he
   ·omega
   ·have:=i2 e he;omega
 obtain⟨h4,h5⟩:=h3 es;rw[CP];simp only[List.length_cons,List.length_append,List.length_nil];exact⟨by omega,fun e he=>by have:=h5 e he;omega⟩
theorem RG{d y:V}{k:By}(h:AK d k=some y):Aj d k = .ok y:=by
 unfold AK at h;split at h
 ·split at h
  ·rename_i es hh;injection h with h;unfold Aj;simp only;rw[if_pos hh,h]
  ·cases h
 ·cases h
section
variable{d x:Int}{f:Nat}{lv:Int}{q y:V}{k:By}
theorem RF(h:gd d x (f+1) lv q)(hm:AK q k=some y):gd d x f (lv+1) y/\(can f y).length<=(can (f+1) q).length:=Nk h (RG hm)
theorem VY{s:By}{o:Option V}(h:Cc o=some s):o=some (Az s):=by
 unfold Cc at h;split at h
 ·injection h with h;subst h;rfl
 ·cases h
theorem Q0{s:By}(h:gd d x (f+1) lv q)(hm:Cc (AK q k)=some s):Ut s/\s.length<=(can (f+1) q).length:=by
 obtain⟨h1,h2⟩:=RF h (VY hm);cases f with
 | zero=>exact h1.elim
 | succ f =>
  refine⟨?_,Nat.le_trans Xa h2⟩;obtain⟨_,h1⟩:=h1;rcases h1 with⟨k,_,e⟩|⟨s',hs,e⟩|⟨n,_,_,_,e⟩|⟨es,_,e⟩|⟨es,_,_,e⟩
  ·cases e
  ·cases e;exact hs
  ·cases e
  ·cases e
  ·cases e
theorem Ri{p:List By}(h:gd d x (f+1) lv q)(hl:(can (f+1) q).length<=100000)(hm:BZ (AK q k)=some p):PathOk p:=by
 unfold BZ at hm;split at hm
 ·rename_i s hs;obtain⟨h1,h2⟩:=Q0 h hs;exact Vz h1 (by omega) hm
 ·cases hm
theorem Ws{o:Op2}(h:gd (d+2) x (f+2) 2 q)(hl:(can (f+2) q).length<=80000)(hf:f+2<=top)(hd:d<=400)(hm:CF q=some o):OpOk (d+2) x 200000 o:=by
 have hl2:(can (f+1+1) q).length<=80000:=hl;unfold CF at hm;split at hm
 ·cases hm
 ·rename_i p hp;split at hm
  ·cases hm
  ·rename_i k hk;injection hm with hm;subst hm;obtain⟨k1,k2,k3⟩:=Ht hk;refine⟨Ri h (by omega) hp,fun h3=>?_,fun h3=>?_⟩
   ·have h4:=k3 h3;cases hq:BZ (AK q Dz) with
    | none=>rw[hq] at h4;cases h4
    | some u=>exact Ri h (by omega) hq
   ·have h4:=k2 h3;cases hq:AK q Bg with
    | none=>rw[hq] at h4;cases h4
    | some u =>
     obtain⟨h5,h6⟩:=RF h hq;have h7:=EU (s:=-2) h5;have h8:gd d x (f+1) 1 u:=by
      have e1:d+2 + -2=d:=by omega
      have e2:(2:Int)+1 + -2=1:=by omega
      rw[e1,e2] at h7;exact h7
     have h9:=CK (D:=d+2) (by omega) h8;have h10:gd (d+2) x top 1 u:=Cj h9 (by unfold top;omega);refine⟨h10,by omega,?_⟩;have h11:=(CO h8).2;show sz top u<=200000;rw[Fb h8 (by omega)];omega
theorem M9:∀ {es:List V} {i:Nat} {l:List Op2},(∀q∈es,gd (d+2) x (f+2) 2 q/\(can (f+2) q).length<=80000)->f+2<=top->d<=400->Cn i es = .ok l->l.length=es.length /\ ∀o∈l,OpOk (d+2) x 200000 o
 | [],i,l,_,_,_,h=>by injection h with h;subst h;exact⟨rfl,fun o ho=>by cases ho⟩
 | q::r,i,l,hq,hf,hd,h=>by
  unfold Cn at h;split at h
  ·cases h
  ·rename_i o ho;split at h
   ·rename_i l' hl';injection h with h;subst h;obtain⟨h1,h2⟩:=M9 (fun q' hq'=>hq q' (by simp[hq'])) hf hd hl';obtain⟨h3,h4⟩:=hq q (by simp);exact⟨by simp[h1],fun o' ho'=>(List.mem_cons.1 ho').elim (fun e=>e▸Ws h3 h4 hf hd ho) (h2 o')⟩
   ·cases h
end
theorem MK{d x:Int}{p:V}(hg:gd (d+2) x top 1 p)(hl:(can top p).length<=80000):∀es y,p = .slice es y->es.length<=80000 /\ ∀q∈es,gd (d+2) x (top-1) 2 q/\(can (top-1) q).length<=80000:=by
 intro es y e;obtain⟨_,hg⟩:=hg;rcases hg with⟨k,_,e1⟩|⟨s',hs,e1⟩|⟨n,_,_,_,e1⟩|⟨es',h,e1⟩|⟨es',_,_,e1⟩
 ·rw[e1] at e;cases e
 ·rw[e1] at e;cases e
 ·rw[e1] at e;cases e
 ·rw[e1] at e;cases e;subst e1;obtain⟨h1,h2⟩:=UC (f:=top-1) (es:=es);have h3:(can (top-1+1) (Ar es)).length<=80000:=hl;exact⟨by omega,fun q hq=>⟨h q hq,by have:=h2 q hq;omega⟩⟩
 ·rw[e1] at e;cases e
theorem Je{d x:Int}{p:V}{l:List Op2}(hg:gd (d+2) x top 1 p)(hl:(can top p).length<=80000)(hd:d<=400)(h:Dv p = .ok l):l.length<=80000 /\ ∀o∈l,OpOk (d+2) x 200000 o:=by
 have hb:=MK hg hl;unfold Dv at h;split at h
 ·rename_i es y;obtain⟨h1,h2⟩:=hb es y rfl;obtain⟨h3,h4⟩:=M9 (f:=top-3) h2 (by unfold top;omega) hd h;exact⟨by omega,h4⟩
 ·cases h
theorem Rj{d x:Int}{p:V}(hg:gd (d+2) x top 1 p)(hl:(can top p).length<=80000):∀es y,p = .slice es y->es.length<=400000000 /\ ∀q∈es,∀k s,Cc (AK q k)=some s->s.length<=1048576:=by
 intro es y e;obtain⟨h1,h2⟩:=MK hg hl es y e;refine⟨by omega,fun q hq k s hs=>?_⟩;obtain⟨h3,h4⟩:=h2 q hq;have:=(Q0 (f:=top-2) h3 hs).2;have h5:(can (top-2+1) q).length<=80000:=h4;omega
end Sp
end
end Go.Proofs.YtdpomdelmdofmaaGreatDoor
